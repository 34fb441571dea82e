import PyProof.Rows.All
import Wide.All
import OpenK.AllK
import Wide.FinOn
import PyProof.EqAt
import PyProof.EqKinds
import PyProof.TupleCall
import KE.BitLaws
import KE.OsGo
import KE.OsEnd
import KE.KLam
import KE.KDictSum
import KE.IntBitsLaws
import PyProof.Rows.SortShellAny
import PySem.Challenge.RW_shapedots_s02_paint
set_option Elab.async false
set_option linter.all false
set_option maxRecDepth 100000
open PySem.W (instObj methodObj Frag lookIn plainGet hasDictIn findIn handedIn plainGet_of isFn plainOver takerIn Looks makesIn typeIn emptyDict keepIn specialIn takesIn mroIn kitOne kia_one kitx_list kitx_dict callWith_K methodCall_KW callWith_K0 cellsFrom_some fnOf codeIn nsIn excIn mg_of Codec WalkOS hasAllW_cons ofPy kIn_of)
open List (mem_filter mem_range filterMap_cons mem_cons_self mem_cons_of_mem mem_cons mem_append mem_append_left mem_filterMap mem_append_right any_eq_false length_cons map_cons length_map append_nil nodup_cons of_mem_zip length_take mem_of_getElem? length_append size_toArray length_drop map_nil all_cons any_cons replicate_succ flatten_cons append_assoc nil_append take_of_length_le forIn_nil forIn_cons lookup_cons mem_map all_eq_true length_nil length_pos_iff map_congr_left mem_singleton mem_range'_1 dropWhile_cons takeWhile_cons takeWhile_append_dropWhile length_eq_zero_iff mem_iff_getElem? cons_append map_append sum_append sum_cons all_nil headD_cons zip_cons_cons sum_nil range_succ map_map flatMap_cons mem_map_of_mem pairwise_cons length_range mem_reverse not_mem_nil nodup_nil drop_drop map_drop map_take map_id set_set take_length take_succ all_eq_false any_nil drop_length)
open Option (getD_none isSome_some isSome_map map_eq_some_iff bind_some map_some bind_none none_or)
open Nat (lt_of_lt_of_le lt_irrefl ne_of_lt le_trans le_of_lt ne_of_gt le_refl zero_le le_of_eq lt_succ_self add_comm mul_comm le_of_succ_le lt_succ_of_lt lt_of_le_of_lt min_eq_left add_assoc mul_zero sub_zero mul_le_mul)
open Int (toNat_natCast zero_add mul_add add_zero add_mul one_mul not_lt neg_mul_neg mul_nonneg natCast_nonneg natCast_mul)
namespace L2
open PySem PySem.Spec PyProof.Rows
abbrev Key:=Sum Int Str
def uu:Key->Value->Bool
 |.inl k,v=>Value.isInt k v
 |.inr x,v=>Value.isStrOf x v
def Xr(w:World):Key->Int
 |.inl k=>hashInt k
 |.inr x=>hashStr w x
theorem cK:∀{k:Key}{v:Value},uu k v=true->(∃i t,k=Sum.inl i/\v=Value.int i t)\/(∃x t,k=Sum.inr x/\v=Value.str x t)
 |.inl i,v,h=>by
  obtain⟨t,e⟩:=Value.isInt_shape (k:=i) (v:=v) h;exact .inl ⟨i,t,rfl,e⟩
 |.inr x,v,h=>by
  obtain⟨t,e⟩:=Value.isStrOf_shape (x:=x) (v:=v) h;exact .inr ⟨x,t,rfl,e⟩
theorem E5(i:Int)(t:Tok):uu (.inl i) (.int i t)=true:=by simp[uu,Value.isInt]
theorem E4(x:Str)(t:Tok):uu (.inr x) (.str x t)=true:=by simp[uu,Value.isStrOf]
theorem TQ(a b:Int):decide ((Sum.inl a:Key)=Sum.inl b)=(a==b):=by
 by_cases e:a=b
 .subst e;simp
 .have h:¬(Sum.inl a:Key)=Sum.inl b:=fun q=>e (Sum.inl.inj q)
  rw[decide_eq_false h];exact(beq_eq_false_iff_ne.mpr e).symm
theorem TK(a b:Str):decide ((Sum.inr a:Key)=Sum.inr b)=decide (a=b):=by
 by_cases e:a=b
 .subst e;simp
 .have h:¬(Sum.inr a:Key)=Sum.inr b:=fun q=>e (Sum.inr.inj q)
  rw[decide_eq_false h,decide_eq_false e]
theorem TN(a:Int)(b:Str):decide ((Sum.inl a:Key)=Sum.inr b)=false:=decide_eq_false (fun q=>nomatch q)
theorem TM(a:Str)(b:Int):decide ((Sum.inr a:Key)=Sum.inl b)=false:=decide_eq_false (fun q=>nomatch q)
def bt(prog:Program)(w:World):PySem.KeyKind prog w Key where
 is:=uu
 hash:=Xr w
 inj:=fun v a b ha hb=>by
  rcases cK ha with⟨i,t,rfl,rfl⟩|⟨x,t,rfl,rfl⟩
  .rcases cK hb with⟨j,u,rfl,e⟩|⟨y,u,rfl,e⟩
   .injection e with e1 _;rw[e1]
   .exact nomatch e
  .rcases cK hb with⟨j,u,rfl,e⟩|⟨y,u,rfl,e⟩
   .exact nomatch e
   .injection e with e1 _;rw[e1]
 byValue:=fun k v h=>by
  rcases cK h with⟨i,t,rfl,rfl⟩|⟨x,t,rfl,rfl⟩<;>rfl
 pyHash:=fun hv h=>by
  rcases cK hv with⟨i,t,rfl,rfl⟩|⟨x,t,rfl,rfl⟩
  .exact wpAny_pyHash_int h
  .exact wpAny_pyHash_str h
 eqBool:=fun hu hv h=>by
  rcases cK hu with⟨i,t,rfl,rfl⟩|⟨x,t,rfl,rfl⟩
  .rcases cK hv with⟨j,u,rfl,rfl⟩|⟨y,u,rfl,rfl⟩
   .rw[TQ]at h;exact wpAny_eqBool_int h
   .rw[TN]at h;exact SeqAt.EqAt.int_str i t y u _ _ _ _ h
  .rcases cK hv with⟨j,u,rfl,rfl⟩|⟨y,u,rfl,rfl⟩
   .rw[TM]at h;exact SeqAt.EqAt.str_int x t j u _ _ _ _ h
   .rw[TK]at h;exact wpAny_eqBool_str h
 «strs»:=fun k x t v h=>by
  rcases cK h with⟨i,u,rfl,e⟩|⟨y,u,rfl,e⟩
  .exact nomatch e
  .injection e with e1 _
   subst e1;cases v<;>rfl
theorem yu(prog:Program)(w:World)(i:Int)(t:Tok):(bt prog w).is (.inl i) (.int i t)=true:=E5 i t
theorem bC(prog:Program)(w:World)(x:Str)(t:Tok):(bt prog w).is (.inr x) (.str x t)=true:=E4 x t
inductive V where
 |non|bl (b:Bool)|int (i:Int)|str (x:Str)|byt (b:Array UInt8)|flt (b:UInt64)|ref (a:Addr)|ty (n:String)
 deriving DecidableEq
def RelV:V->Value->Prop
 |.non,u=>u=Value.none
 |.bl b,u=>u=Value.bool b
 |.int i,u=>∃t,u=Value.int i t
 |.str x,u=>∃t,u=Value.str x t
 |.byt b,u=>∃t,u=Value.bytes b t
 |.flt b,u=>∃t,u=Value.float b t
 |.ref a,u=>u=Value.ref a
 |.ty n,u=>u=Value.type n
abbrev Vals:List V->List Value->Prop:=Paired RelV
theorem Vals.length{xs:List V}{us:List Value}(r:Vals xs us):xs.length=us.length:=Paired.length r
theorem Vals.get:∀{xs:List V}{us:List Value}{i:Nat}{x:V},Vals xs us->xs[i]?=some x->∃u,us[i]?=some u/\RelV x u
 |_,_,_,_,.nil,e=>by simp at e
 |_,_,0,_,.cons r _,e=>by simp at e;subst e;exact⟨_,rfl,r⟩
 |_,_,i+1,x,.cons _ t,e=>by
  obtain⟨u,h1,h2⟩:=Vals.get (i:=i) (x:=x) t (by simpa using e);exact⟨u,by simpa using h1,h2⟩
theorem Vals.set{x:V}{u:Value}(r:RelV x u):∀{xs:List V}{us:List Value}(i:Nat),Vals xs us->Vals (xs.set i x) (us.set i u)
 |_,_,_,.nil=>.nil
 |_,_,0,.cons _ t=>.cons r t
 |_,_,i+1,.cons q t=>.cons q (Vals.set r i t)
theorem Vals.append:∀{xs ys:List V}{us ws:List Value},Vals xs us->Vals ys ws->Vals (xs++ys) (us++ws)
 |_,_,_,_,.nil,s=>s
 |_,_,_,_,.cons r t,s=>.cons r (Vals.append t s)
theorem Vals.take:∀{xs:List V}{us:List Value}(n:Nat),Vals xs us->Vals (xs.take n) (us.take n)
 |_,_,0,_=>.nil
 |_,_,_+1,.nil=>.nil
 |_,_,n+1,.cons r t=>.cons r (Vals.take n t)
theorem Vals.drop:∀{xs:List V}{us:List Value}(n:Nat),Vals xs us->Vals (xs.drop n) (us.drop n)
 |_,_,0,r=>r
 |_,_,_+1,.nil=>.nil
 |_,_,n+1,.cons _ t=>Vals.drop n t
def il:Option V->Option Value->Prop
 |some v,some u=>RelV v u
 |none,none=>True
 |_,_=>False
def KV{D:Type}:List (D×V)->List (D×Value)->Prop:=Paired fun(p:D×V) (q:D×Value)=>p.1=q.1/\RelV p.2 q.2
def kV:Key->V
 |.inl i=>.int i
 |.inr x=>.str x
inductive HO where
 |lst (xs:List V)
 |tup (xs:List V)
 |dK (kvs:List (Key×V))|dT (kvs:List (List Key×V))
 |set (S:Int->Bool) (n:Nat)
 |ins (C dx:Addr) (fs:List (Str×V))
 |own (x:Addr)
 |xd (fs:List (Str×V))
 |met (f x:Addr)
 |rng (lo hi:Int)
 |frz (o:Obj) (u:HO)
 |tbl (ps:Array Value)
 |ext (G:Heap->Prop)
abbrev Hp:=Addr->Option HO
def upd(H:Hp)(a:Addr)(o:HO):Hp:=fun b=>if b=a then some o else H b
theorem ae{H:Hp}{a:Addr}{o:HO}:upd H a o a=some o:=by unfold upd;rw[if_pos rfl]
theorem aq{H:Hp}{a b:Addr}{o:HO}(h:b≠a):upd H a o b=H b:=by unfold upd;rw[if_neg h]
theorem cf{H:Hp}{a:Addr}{o u:HO}:upd (upd H a o) a u=upd H a u:=by
 funext b;unfold upd;split<;>rfl
theorem iC{H:Hp}{a b:Addr}{o u:HO}(h:H a=some o)(h':H b=some u)(d:o≠u):a≠b:=by
 intro e;subst e;rw[h]at h';exact d (Option.some.inj h')
theorem ak{H:Hp}{a b:Addr}{o:HO}(h:H a=some o)(h':H b=none):a≠b:=by
 intro e;subst e;rw[h]at h';cases h'
section
variable(P:Program)(w:World)
def b9(H:Hp)(h:Heap)(a:Addr):HO->Prop
 |.lst xs=>xs.length<=sizeLine/\∃(its:List Value)(n:Nat),Vals xs its/\h.get? a=some {cls:=.type "list",data:=.seq its.toArray n}
 |.tup xs=>xs.length<=sizeLine/\∃its:List Value,Vals xs its/\IsTup h a its.toArray
 |.dK kvs=>kvs.length<=sizeLine/\(a==sysModules)=false/\∃vs,KV kvs vs/\h.DictOf (bt P w) a vs
 |.dT kvs=>kvs.length<=sizeLine/\(a==sysModules)=false/\∃xs:List (List Key×Addr×Value),
   Paired (fun(p:List Key×V) (q:List Key×Addr×Value)=>p.1=q.1/\H q.2.1=some (.tup (p.1.map kV))/\RelV p.2 q.2.2) kvs xs/\
   ∃o es ep,h.get? a=some o/\o.ExactDict/\o.data=.dict es ep/\es.toList=xs.map (entryOfKey (tupleKind (bt P w)))/\(xs.map (·.1)).Nodup
 |.set S n=>h.SetOf (intKind P w) a S n
 |.ins C dx fs=>H dx=some (.own a)/\fs.length<=1000/\dx≠a/\h.get? a=some (instObj C dx)/\
   ∃mA,h.Ns1 dx mA/\(∀f,il (fs.lookup f) (mA f))/\PySem.Within mA (fs.map (·.1))
 |.own _=>∃o,h.get? a=some o
 |.xd fs=>∃mA,h.Ns1 a mA/\∀f,il (fs.lookup f) (mA f)
 |.rng lo hi=>∃t u v,h.get? a=some {cls:=.type "range",data:=.fields #[.int lo t,.int hi u,.int 1 v]}
 |.frz o u=>h.get? a=some o/\b9 H h a u
 |.tbl ps=>h.get? a=some {cls:=.none,data:=.fields ps}
 |.met f x=>h.get? a=some (methodObj (.ref f) (.ref x))
 |.ext G=>G h/\(∃o,h.get? a=some o)/\∀h1 h2:Heap,G h1->(∀o,h1.get? a=some o->h2.get? a=some o)->G h2
def HOk(H:Hp)(h:Heap):Prop:=∀a o,H a=some o->b9 P w H h a o
end
section
variable{P:Program}{w:World}{H H':Hp}{h h':Heap}{a:Addr}{o:HO}
theorem b9.lt(x:b9 P w H h a o):a<h.objs.size:=by
 cases o with
 |lst xs=>obtain⟨_,_,_,_,e⟩:=x;exact Heap.lt_size e
 |tup xs=>obtain⟨_,_,_,p⟩:=x;exact p.lt
 |dK kvs=>obtain⟨_,_,_,_,o,_,_,e,_⟩:=x;exact Heap.lt_size e
 |dT kvs=>obtain⟨_,_,_,_,o,_,_,e,_⟩:=x;exact Heap.lt_size e
 |set S n=>obtain⟨o,_,_,_,e,_⟩:=x;exact Heap.lt_size e
 |ins C dx fs=>obtain⟨_,_,_,e,_⟩:=x;exact Heap.lt_size e
 |own y=>obtain⟨_,e⟩:=x;exact Heap.lt_size e
 |xd fs=>obtain⟨_,⟨_,_,_,e,_⟩,_⟩:=x;exact Heap.lt_size e
 |rng lo hi=>obtain⟨_,_,_,e⟩:=x;exact Heap.lt_size e
 |frz ob u=>obtain⟨e,_⟩:=x;exact Heap.lt_size e
 |tbl ps=>exact Heap.lt_size (show h.get? a=some _ from x)
 |met f y=>exact Heap.lt_size (show h.get? a=some _ from x)
 |ext G=>obtain⟨_,⟨_,e⟩,_⟩:=x;exact Heap.lt_size e
theorem Paired.rn{I L:Type}{F G:I->L->Prop}:∀{l₁:List I}{l₂:List L},Paired F l₁ l₂->(∀a b,F a b->G a b)->Paired G l₁ l₂
 |_,_,.nil,_=>.nil
 |_,_,.cons r t,f=>.cons (f _ _ r) (Paired.rn t f)
theorem b9.nN(x:b9 P w H h a o)(k:∀b u,(b=a\/H b=some (.own a))->h.get? b=some u->h'.get? b=some u)
  (ho:∀b,H b=some (.own a)->H' b=some (.own a)) (ht:∀b xs,H b=some (.tup xs)->H' b=some (.tup xs)):b9 P w H' h' a o:=by
 induction o with
 |lst xs=>obtain⟨z,its,n,r,e⟩:=x;exact⟨z,its,n,r,k _ _ (.inl rfl) e⟩
 |tup xs=>obtain⟨z,its,r,ob,e,c⟩:=x;exact⟨z,its,r,ob,k _ _ (.inl rfl) e,c⟩
 |dK kvs=>obtain⟨z,y,vs,r,ob,es,ep,e,c⟩:=x;exact⟨z,y,vs,r,ob,es,ep,k _ _ (.inl rfl) e,c⟩
 |dT kvs=>
  obtain⟨z,y,xs,r,ob,es,ep,e,c⟩:=x;exact⟨z,y,xs,Paired.rn r fun p q z=>⟨z.1,ht _ _ z.2.1,z.2.2⟩,ob,es,ep,k _ _ (.inl rfl) e,c⟩
 |set S n=>obtain⟨ob,es,ep,t,e,c⟩:=x;exact⟨ob,es,ep,t,k _ _ (.inl rfl) e,c⟩
 |ins C dx fs=>
  obtain⟨d,z,ne,e,mA,⟨od,es,ep,e2,c⟩,r⟩:=x;exact⟨ho _ d,z,ne,k _ _ (.inl rfl) e,mA,⟨od,es,ep,k _ _ (.inr d) e2,c⟩,r⟩
 |own y=>obtain⟨ob,e⟩:=x;exact⟨ob,k _ _ (.inl rfl) e⟩
 |xd fs=>obtain⟨mA,⟨od,es,ep,e,c⟩,r⟩:=x;exact⟨mA,⟨od,es,ep,k _ _ (.inl rfl) e,c⟩,r⟩
 |rng lo hi=>obtain⟨t,u,v,e⟩:=x;exact⟨t,u,v,k _ _ (.inl rfl) e⟩
 |frz ob u ih=>obtain⟨e,q⟩:=x;exact⟨k _ _ (.inl rfl) e,ih q⟩
 |tbl ps=>
  have e:h.get? a=some {cls:=.none,data:=.fields ps}:=x;show h'.get? a=some {cls:=.none,data:=.fields ps};exact k a _ (.inl rfl) e
 |met f y=>
  have e:h.get? a=some (methodObj (.ref f) (.ref y)):=x;show h'.get? a=some (methodObj (.ref f) (.ref y));exact k a _ (.inl rfl) e
 |ext G=>obtain⟨p,⟨o,e⟩,st⟩:=x;exact⟨st _ _ p fun o q=>k _ _ (.inl rfl) q,⟨o,k _ _ (.inl rfl) e⟩,st⟩
theorem HOk.lt(x:HOk P w H h)(e:H a=some o):a<h.objs.size:=(x a o e).lt
theorem HOk.fresh(x:HOk P w H h)(e:h.objs.size<=a):H a=none:=by
 cases q:H a with
 |none=>rfl
 |some u=>exact absurd (lt_of_lt_of_le (x.lt q) e) (lt_irrefl _)
theorem HOk.kept(x:HOk P w H h)(k:∀b u,h.get? b=some u->h'.get? b=some u):HOk P w H h':=fun a o e=>
 (x a o e).nN (fun b u _ q=>k b u q) (fun _ q=>q) fun _ _ q=>q
theorem HOk.laid(x:HOk P w H h)(k:∀b u,h.get? b=some u->h'.get? b=some u)(hp:h.objs.size<=a)(new:b9 P w (upd H a o) h' a o):HOk P w (upd H a o) h':=fun b u e=>by
 have hn:=x.fresh hp;by_cases hb:b=a
 .subst hb;rw[ae]at e;cases e;exact new
 .rw[aq hb]at e;exact(x b u e).nN (fun c v _ q=>k c v q) (fun c q=>by rw[aq (ak q hn)];exact q) fun c xs q=>by rw[aq (ak q hn)];exact q
end
def Rd(H:Hp)(a:Addr)(u:HO):Prop:=H a=some u\/∃o,H a=some (.frz o u)
theorem Rd.ok{P:Program}{w:World}{H:Hp}{h:Heap}{a:Addr}{u:HO}(r:Rd H a u)(x:HOk P w H h):b9 P w H h a u:=by
 rcases r with r|⟨o,r⟩
 .exact x a u r
 .obtain⟨_,q⟩:=x a _ r;exact q
def Mut:Option HO->Prop
 |some (.lst _)=>True
 |some (.dK _)=>True
 |some (.dT _)=>True
 |some (.set _ _)=>True
 |some (.ins _ _ _)=>True
 |some (.ext _)=>True
 |_=>False
section
variable{P:Program}{w:World}{H:Hp}{h h':Heap}{x e:Addr}{o':HO}
theorem HOk.write(ok:HOk P w H h)(mu:Mut (H x))(he:e=x\/H e=some (.own x))(k:∀b u,b≠e->h.get? b=some u->h'.get? b=some u)(heo:∃u,h'.get? e=some u)
  (new:b9 P w (upd H x o') h' x o'):HOk P w (upd H x o') h':=fun b u q=>by
 have Vu:∀c y,H c=some (.own y)->c≠x:=fun c y r z=>by subst z;rw[r]at mu;exact mu
 have Xf:∀c xs,H c=some (.tup xs)->c≠x:=fun c xs r z=>by subst z;rw[r]at mu;exact mu
 by_cases hb:b=x
 .subst hb;rw[ae]at q;cases q;exact new
 .rw[aq hb]at q;by_cases hbe:b=e
  .have q':H b=some (.own x):=by
    rcases he with z|z
    .exact absurd (hbe.trans z) hb
    .rw[hbe];exact z
   rw[q]at q';cases q';obtain⟨v,hv⟩:=heo;exact⟨v,by rw[hbe];exact hv⟩
  .refine(ok b u q).nN (fun c v hc r=>k c v ?_ r) (fun c r=>by rw[aq (Vu c b r)];exact r) fun c xs r=>by rw[aq (Xf c xs r)];exact r
   rcases hc with rfl|hc
   .exact hbe
   .rintro rfl;rcases he with z|z
    .exact Vu c b hc z
    .rw[hc]at z;cases z;exact hb rfl
end
structure Un(fs ex:List Addr)(H H':Hp)(h h':Heap):Prop where
 keep:∀b o,h.get? b=some o->H b=none->b∉fs->b∉ex->h'.get? b=some o
 slot:∀b o,h.get? b=some o->H b=none->b∈fs->b∉ex->∃sl,h'.get? b=some {o with slots:=sl}
 free:∀b o,h.get? b=some o->H b=none->b∉ex->H' b=none
 there:∀b o,h.get? b=some o->b∉ex->∃o',h'.get? b=some o'
 lI:∀b xs,H b=some (.tup xs)->H' b=some (.tup xs)
 kj:∀b o u,H b=some (.frz o u)->H' b=some (.frz o u)
 kS:∀b ps,H b=some (.tbl ps)->∃more,H' b=some (.tbl (ps++more))
section
variable{fs fs' ex ex':List Addr}{H H1 H2:Hp}{h h1 h2 h':Heap}{a x e:Addr}{o:HO}
theorem Un.any(u:Un fs ex H H1 h h1){b:Addr}{ob:Obj}(q:h.get? b=some ob)(n:H b=none)(hx:b∉ex):∃sl,h1.get? b=some {ob with slots:=sl}:=by
 by_cases hb:b∈fs
 .exact u.slot b ob q n hb hx
 .exact⟨ob.slots,u.keep b ob q n hb hx⟩
theorem Un.kept(k:∀b u,h.get? b=some u->h'.get? b=some u):Un fs ex H H h h':=
 ⟨fun b ob q _ _ _=>k b ob q,fun b ob q _ _ _=>⟨ob.slots,k b ob q⟩,fun _ _ _ n _=>n,fun b ob q _=>⟨ob,k b ob q⟩,fun _ _ q=>q,fun _ _ _ q=>q,fun _ ps q=>⟨#[],by rw[q];simp⟩⟩
theorem Un.refl:Un fs ex H H h h:=Un.kept fun _ _ q=>q
theorem Un.laid(k:∀b u,h.get? b=some u->h'.get? b=some u)(hp:h.objs.size<=a)(hn:H a=none):Un fs ex H (upd H a o) h h' where
 keep:=fun b u q _ _ _=>k b u q
 slot:=fun b u q _ _ _=>⟨u.slots,k b u q⟩
 free:=fun b u q n _=>by rw[aq (ne_of_lt (lt_of_lt_of_le (Heap.lt_size q) hp))];exact n
 there:=fun b u q _=>⟨u,k b u q⟩
 lI:=fun b xs q=>by rw[aq (ak q hn)];exact q
 kj:=fun b u xs q=>by rw[aq (ak q hn)];exact q
 kS:=fun b ps q=>⟨#[],by rw[aq (ak q hn),q];simp⟩
theorem Un.write(mu:Mut (H x))(he:e=x\/H e=some (.own x))(k:∀b u,b≠e->h.get? b=some u->h'.get? b=some u)(heo:∃u,h'.get? e=some u):Un fs ex H (upd H x o) h h':=by
 have hx:∀b,H b=none->b≠x:=fun b n z=>by subst z;rw[n]at mu;exact mu
 have hb:∀b,H b=none->b≠e:=fun b n z=>by
  subst z;rcases he with r|r
  .exact hx b n r
  .rw[n]at r;cases r
 have hm:∀b u,H b=some u->¬Mut (some u)->b≠x:=fun b u q nm z=>by subst z;rw[q]at mu;exact nm mu
 refine⟨fun b u q n _ _=>k b u (hb b n) q,fun b u q n _ _=>⟨u.slots,k b u (hb b n) q⟩,fun b u q n _=>by rw[aq (hx b n)];exact n,fun b u q _=>?_,
  fun b xs q=>by rw[aq (hm b _ q fun z=>z)];exact q,fun b u xs q=>by rw[aq (hm b _ q fun z=>z)];exact q,fun b ps q=>⟨#[],by rw[aq (hm b _ q fun z=>z),q];simp⟩⟩
 by_cases hbe:b=e
 .subst hbe;exact heo
 .exact⟨u,k b u hbe q⟩
end
def trk(h:Heap)(H:Hp):List Addr:=(List.range h.objs.size).filter fun a=>(H a).isSome
def rO(h:Heap)(H:Hp):Heap:=PySem.W.hideAll h (trk h H)
theorem Fl(h:Heap)(H:Hp):(rO h H).objs.size=h.objs.size:=PySem.W.hideAll_size _ _
theorem IY{h:Heap}{H:Hp}{b:Addr}{o:Obj}(e:h.get? b=some o)(n:H b=none):(rO h H).get? b=some o:=
 PySem.W.hideAll_get _ e fun hm=>by
  have q:(H b).isSome=true:=(mem_filter.mp hm).2;rw[n]at q;simp at q
theorem Mo{h:Heap}{H:Hp}{b:Addr}{o:Obj}(e:(rO h H).get? b=some o):h.get? b=some o/\H b=none:=by
 have e':h.get? b=some o:=PySem.W.of_hideAll (trk h H) e;refine⟨e',?_⟩;cases q:H b with
 |none=>rfl
 |some x=>
  have hm:b∈trk h H:=mem_filter.mpr ⟨mem_range.mpr (Heap.lt_size e'),by simp[q]⟩;have z:(rO h H).get? b=none:=PySem.W.hideAll_none (trk h H) hm;rw[z]at e;cases e
structure Mod(K:Frag)(mg:Str->Option Value)(base:Heap):Prop where
 kin:K.In base
 glob:base.Ns mainGlobals mg
 blt:∃mb,base.Ns builtinsNs mb/\∀x:Str,x ≠ "__name__"->mb x=bootBuiltins x
 nolimit:base.NoLimit
structure Cx where
 prog:Program
 w:World
 K:Frag
 mg:Str->Option Value
 base:Heap
 A:Around
 N:List Str
 s₀:Shared
 H₀:Hp
 env:Env
 outer:List Env
 stack:List Env
 ex:List Addr
 fn:Str->Bool
 calm:Bool
 pn:List (Addr×Obj)
 xe:Value->Shared->Prop
def frs(l:List Env):List Addr:=l.filterMap (·.frame)
abbrev Cx.fs(X:Cx):List Addr:=frs X.outer
def Vis(sc:Scope)(x:Str):Prop:=sc.names.lookup x=some .local\/sc.names.lookup x=some .cell\/sc.names.lookup x=some .free
def Loc(sc:Scope)(x:Str):Prop:=sc.names.lookup x=some .local\/sc.names.lookup x=some .cell
def Look(env:Env)(h:Heap)(m:Str->Option Value)(x:Str)(u:Value):Prop:=
 (env.kindOf x=some .local/\m x=some u)\/((env.kindOf x=some .cell\/env.kindOf x=some .free)/\∃c,env.cells.lookup x=some c/\h.IsCell c (some u))
structure Cx.Ok(X:Cx):Prop where
 mod:Mod X.K X.mg X.base
 kind:X.env.scope.kind=.function
 glob:X.env.globals=mainGlobals
 blt:X.env.builtins=builtinsNs
 above:X.s₀.heap.objs.size<=X.env.locals
 inj:∀x y c,X.env.cells.lookup x=some c->X.env.cells.lookup y=some c->x=y
 has:∀x,(X.env.kindOf x=some .cell\/X.env.kindOf x=some .free)->∃c,X.env.cells.lookup x=some c
 cab:∀x c,X.fn x=true->X.env.cells.lookup x=some c->X.s₀.heap.objs.size<=c
 hd:X.calm=true->X.A.handled=none
 frames:X.A.frames=some X.stack
 stk:X.stack=X.outer\/(X.stack=X.env::X.outer/\X.env.frame=some X.env.locals)
 exf:∀b∈X.ex,b≠X.env.locals/\∀x c,X.env.cells.lookup x=some c->c≠b
 bs:∀b o,X.base.get? b=some o->X.s₀.heap.get? b=some o/\X.H₀ b=none
 bsz:X.base.objs.size<=X.s₀.heap.objs.size
 yn:∀b o,X.base.get? b=some o->b∉X.ex
 zr:∀b∈X.ex,b∉X.fs
 jE:X.s₀.heap.FunFrames X.base X.outer
 frf:∀b∈X.fs,X.H₀ b=none
structure Inv(X:Cx)(pins:List (Addr×Obj))(Y:List (Option V))(H:Hp)(s:Shared):Prop where
 ok:X.Ok
 os:s.os=X.s₀.os
 bare:AllBare s.gens
 base:Un X.fs X.ex X.H₀ H X.s₀.heap s.heap
 loc:∃m,s.heap.Ns X.env.locals m/\∀(i:Nat)(x:Str)(v:V),X.N[i]?=some x->Y[i]?=some (some v)->Vis X.env.scope x->∃u,RelV v u/\Look X.env s.heap m x u
 cell:∀x c,X.env.cells.lookup x=some c->∃v,s.heap.IsCell c v
 free:H X.env.locals=none
 fw:∀x c,X.env.cells.lookup x=some c->H c=none
 pin:∀p∈X.pn++pins,s.heap.get? p.1=some p.2/\H p.1=none/\p.1≠X.env.locals/\p.1∉X.fs/\∀v,p.2.data≠.cell v
 hok:HOk X.prog X.w H s.heap
 len:Y.length=X.N.length
section
variable{X:Cx}{pins:List (Addr×Obj)}{Y:List (Option V)}{H H':Hp}{s:Shared}{h':Heap}
theorem Cx.Ok.Vw(ok:X.Ok){b:Addr}{o:Obj}(e:X.base.get? b=some o):b∉X.fs:=fun hb=>by
 have:=(ok.jE.mem hb).1;rw[e]at this;cases this
theorem Inv.bs(I:Inv X pins Y H s):∀b o,X.base.get? b=some o->s.heap.get? b=some o/\H b=none:=fun b o e=>
 ⟨I.base.keep b o (I.ok.bs b o e).1 (I.ok.bs b o e).2 (I.ok.Vw e) (I.ok.yn b o e),I.base.free b o (I.ok.bs b o e).1 (I.ok.bs b o e).2 (I.ok.yn b o e)⟩
theorem Inv.bk(I:Inv X pins Y H s):∀b o,X.base.get? b=some o->s.heap.get? b=some o:=fun b o e=>(I.bs b o e).1
theorem Inv.mod(I:Inv X pins Y H s):Mod X.K X.mg X.base:=I.ok.mod
theorem Inv.kIn(I:Inv X pins Y H s):X.K.In s.heap:=I.ok.mod.kin.keeps I.bk
theorem Inv.lt(I:Inv X pins Y H s):X.env.locals<s.heap.objs.size:=let ⟨_,hn,_⟩:=I.loc;hn.lt
theorem Inv.sz(I:Inv X pins Y H s):X.s₀.heap.objs.size<=s.heap.objs.size:=le_trans I.ok.above (le_of_lt I.lt)
theorem Inv.Vv(I:Inv X pins Y H s){a:Addr}(h:s.heap.objs.size<=a):a∉X.fs:=fun hb=>by
 obtain⟨_,o,ho,_⟩:=I.ok.jE.mem hb;exact absurd (lt_of_lt_of_le (Heap.lt_size ho) (le_trans I.sz h)) (lt_irrefl _)
theorem Inv.cne(I:Inv X pins Y H s):∀x c,X.env.cells.lookup x=some c->c≠X.env.locals:=fun x c e z=>by
 obtain⟨v,o,ho,hd⟩:=I.cell x c e;obtain⟨m,⟨o',es,ep,ho',hd',_⟩,_⟩:=I.loc;rw[z,ho']at ho;cases ho;rw[hd']at hd;cases hd
theorem Inv.jE(I:Inv X pins Y H s):s.heap.FunFrames X.base X.outer:=by
 have all:∀(l:List Env),(∀b∈frs l,b∈X.fs)->X.s₀.heap.FunFrames X.base l->s.heap.FunFrames X.base l:=by
  intro l;induction l with
  |nil=>intro _ _;trivial
  |cons env r ih=>
   intro hs hl;obtain⟨hk,⟨L,o,hf,hn,ho,hd⟩,hr⟩:=hl;have hL:L∈X.fs:=hs L (by unfold frs;rw[filterMap_cons,hf];exact mem_cons_self);obtain⟨sl,e⟩:=I.base.slot L o ho (I.ok.frf L hL) hL fun z=>I.ok.zr L z hL
   exact⟨hk,⟨L,_,hf,hn,e,hd⟩,ih (fun b hb=>hs b (by unfold frs;rw[filterMap_cons,hf];exact mem_cons_of_mem _ hb)) hr⟩
 exact all X.outer (fun _ hb=>hb) I.ok.jE
theorem Inv.stack(I:Inv X pins Y H s):s.heap.FunFrames X.base X.stack:=by
 rcases I.ok.stk with e|⟨e,hf⟩
 .rw[e];exact I.jE
 .rw[e];obtain⟨m,hn,_⟩:=I.loc;refine .cons (by rw[I.ok.kind];decide) hf hn ?_ I.jE;exact Heap.get?_none_of_le (le_trans I.ok.bsz I.ok.above)
theorem Inv.jQ(I:Inv X pins Y H s):∀b∈frs X.stack,b∈X.env.locals::X.fs:=fun b hb=>by
 rcases I.ok.stk with e|⟨e,hf⟩
 .rw[e]at hb;exact mem_cons_of_mem _ hb
 .rw[e]at hb;unfold frs at hb;rw[filterMap_cons,hf]at hb;exact hb
theorem Inv.pK(I:Inv X pins Y H s):∀b∈frs X.stack,H b=none:=fun b hb=>by
 rcases mem_cons.mp (I.jQ b hb)with e|hb
 .rw[e];exact I.free
 .obtain⟨_,o,ho,_⟩:=I.ok.jE.mem hb;exact I.base.free b o ho (I.ok.frf b hb) fun z=>I.ok.zr b z hb
theorem Inv.step{g':Array GenState}{t':Nat}{d':Drawn}{ch:List Addr}(I:Inv X pins Y H s)
  (hch:∀b∈ch,(b∈X.ex\/X.s₀.heap.objs.size<=b)/\b≠X.env.locals/\(∀x c,X.env.cells.lookup x=some c->c≠b)/\∀p∈X.pn++pins,p.1≠b)
  (keep:∀b o,b≠X.env.locals->b∉X.fs->b∉ch->s.heap.get? b=some o->H b=none->h'.get? b=some o)
  (slot:∀b o,b≠X.env.locals->b∈X.fs->b∉ch->s.heap.get? b=some o->H b=none->∃sl,h'.get? b=some {o with slots:=sl}) (free:∀b o,b∉ch->s.heap.get? b=some o->H b=none->H' b=none)
  (there:∀b o,b∉ch->s.heap.get? b=some o->∃o',h'.get? b=some o')
  (lI:∀b xs,H b=some (.tup xs)->H' b=some (.tup xs)) (kj:∀b o u,H b=some (.frz o u)->H' b=some (.frz o u)) (kS:∀b ps,H b=some (.tbl ps)->∃more,H' b=some (.tbl (ps++more)))
  (ns:∀m,s.heap.Ns X.env.locals m->h'.Ns X.env.locals m) (hok:HOk X.prog X.w H' h') (hg:AllBare g'):
  Inv X pins Y H' {s with heap:=h',gens:=g',drawn:=d',toks:=t'}:=by
 have neL:∀b o,X.s₀.heap.get? b=some o->b≠X.env.locals:=fun b o e=>ne_of_lt (lt_of_lt_of_le (Heap.lt_size e) I.ok.above)
 have neC:∀b o,X.s₀.heap.get? b=some o->b∉X.ex->b∉ch:=fun b o e hx hb=>by
  rcases(hch b hb).1 with z|z
  .exact hx z
  .exact absurd (lt_of_lt_of_le (Heap.lt_size e) z) (lt_irrefl _)
 have cellK:∀x c,X.env.cells.lookup x=some c->∀v,s.heap.IsCell c v->h'.IsCell c v:=fun x c e v ⟨o,ho,hd⟩=>by
  have nch:c∉ch:=fun z=>(hch c z).2.2.1 x c e rfl
  by_cases hc:c∈X.fs
  .obtain⟨sl,q⟩:=slot c o (I.cne x c e) hc nch ho (I.fw x c e);exact⟨_,q,hd⟩
  .exact⟨o,keep c o (I.cne x c e) hc nch ho (I.fw x c e),hd⟩
 refine⟨I.ok,I.os,hg,⟨fun b o e n hb hx=>?_,fun b o e n hb hx=>?_,fun b o e n hx=>?_,fun b o e hx=>?_,fun b xs e=>lI b xs (I.base.lI b xs e),fun b o xs e=>kj b o xs (I.base.kj b o xs e),fun b ps e=>?_⟩,?_,fun x c e=>?_,?_,fun x c e=>?_,fun p hp=>?_,hok,I.len⟩
 .exact keep b o (neL b o e) hb (neC b o e hx) (I.base.keep b o e n hb hx) (I.base.free b o e n hx)
 .obtain⟨sl,e1⟩:=I.base.slot b o e n hb hx;obtain⟨sl',e2⟩:=slot b _ (neL b o e) hb (neC b o e hx) e1 (I.base.free b o e n hx);exact⟨sl',e2⟩
 .obtain⟨o',e1⟩:=I.base.there b o e hx;exact free b o' (neC b o e hx) e1 (I.base.free b o e n hx)
 .obtain⟨o',e1⟩:=I.base.there b o e hx;exact there b o' (neC b o e hx) e1
 .obtain⟨m1,e1⟩:=I.base.kS b ps e;obtain⟨m2,e2⟩:=kS b _ e1;exact⟨m1++m2,by rw[e2,Array.append_assoc]⟩
 .obtain⟨m,hn,hl⟩:=I.loc;refine⟨m,ns m hn,fun i x v e1 e2 e3=>?_⟩;obtain⟨u,r,l⟩:=hl i x v e1 e2 e3;refine⟨u,r,?_⟩;rcases l with l|⟨k,c,e,z⟩
  .exact .inl l
  .exact .inr ⟨k,c,e,cellK x c e _ z⟩
 .obtain⟨v,z⟩:=I.cell x c e;exact⟨v,cellK x c e v z⟩
 .obtain⟨m,⟨o,_,_,ho,_⟩,_⟩:=I.loc;exact free _ o (fun z=>(hch _ z).2.1 rfl) ho I.free
 .obtain⟨v,o,ho,hd⟩:=I.cell x c e;exact free c o (fun z=>(hch c z).2.2.1 x c e rfl) ho (I.fw x c e)
 .obtain⟨e,n,ne,nf,d⟩:=I.pin p hp;have nch:p.1∉ch:=fun z=>(hch p.1 z).2.2.2 p hp rfl
  exact⟨keep p.1 p.2 ne nf nch e n,free p.1 p.2 nch e n,ne,nf,d⟩
theorem Inv.un{t':Nat}(I:Inv X pins Y H s)(u:Un X.fs [] H H' s.heap h')(hok:HOk X.prog X.w H' h'):Inv X pins Y H' {s with heap:=h',toks:=t'}:=by
 obtain⟨m,⟨o,es,ep,ho,r⟩,_⟩:=id I.loc;obtain⟨sl,hL⟩:=u.any ho I.free (by simp);exact I.step (g':=s.gens) (d':=s.drawn) (ch:=[]) (fun _ z=>nomatch z) (fun b o _ hb _ e n=>u.keep b o e n hb (by simp)) (fun b o _ hb _ e n=>u.slot b o e n hb (by simp)) (fun b o _ e n=>u.free b o e n (by simp)) (fun b o _ e=>u.there b o e (by simp)) u.lI u.kj u.kS (fun m' hm=>by
  obtain⟨o',es',ep',ho',r'⟩:=hm;rw[ho]at ho';cases ho'
  exact⟨_,es',ep',hL,r'⟩) hok I.bare
theorem Inv.call{g':Array GenState}{t':Nat}{d':Drawn}{ch:List Addr}(I:Inv X pins Y H s)(u:Un (frs X.stack) ch H H' s.heap h')(hok:HOk X.prog X.w H' h')(hg:AllBare g')
  (hch:∀b∈ch,(b∈X.ex\/X.s₀.heap.objs.size<=b)/\b≠X.env.locals/\(∀x c,X.env.cells.lookup x=some c->c≠b)/\∀p∈X.pn++pins,p.1≠b):
  Inv X pins Y H' {s with heap:=h',gens:=g',drawn:=d',toks:=t'}:=by
 obtain⟨m,⟨o,es,ep,ho,r⟩,_⟩:=id I.loc;obtain⟨sl,hL⟩:=u.any ho I.free fun z=>(hch _ z).2.1 rfl
 exact I.step (ch:=ch) hch (fun b o hL hb hc e n=>u.keep b o e n (fun z=>(mem_cons.mp (I.jQ b z)).elim hL hb) hc) (fun b o _ _ hc e n=>u.any e n hc) (fun b o hc e n=>u.free b o e n hc) (fun b o hc e=>u.there b o e hc) u.lI u.kj u.kS (fun m' hm=>by
  obtain⟨o',es',ep',ho',r'⟩:=hm;rw[ho]at ho';cases ho'
  exact⟨_,es',ep',hL,r'⟩) hok hg
theorem Inv.turned{t':Nat}{it:Addr}(I:Inv X pins Y H s)(k:∀b o,b≠it->s.heap.get? b=some o->h'.get? b=some o)(hn:H it=none)(hL:it≠X.env.locals)
  (h1:it∈X.ex\/X.s₀.heap.objs.size<=it) (h2:∀x c,X.env.cells.lookup x=some c->c≠it) (h3:∀p∈X.pn++pins,p.1≠it):Inv X pins Y H {s with heap:=h',toks:=t'}:=by
 have nit:∀b u,H b=some u->b≠it:=fun b u e z=>by rw[z,hn]at e;cases e
 refine I.step (g':=s.gens) (d':=s.drawn) (ch:=[it]) (fun b hb=>?_) (fun b o _ _ hc e _=>k b o (fun z=>hc (by simp[z])) e) (fun b o _ _ hc e _=>⟨o.slots,k b o (fun z=>hc (by simp[z])) e⟩) (fun _ _ _ _ n=>n)
  (fun b o hc e=>⟨o,k b o (fun z=>hc (by simp[z])) e⟩) (fun _ _ e=>e) (fun _ _ _ e=>e) (fun b ps e=>⟨#[],by rw[e];simp⟩) (fun m hm=>?_) (fun b u e=>?_) I.bare
 .have e:b=it:=by simpa using hb
  subst e;exact⟨h1,hL,h2,h3⟩
 .obtain⟨o,es,ep,ho,r⟩:=hm;exact⟨o,es,ep,k _ o (Ne.symm hL) ho,r⟩
 .refine(I.hok b u e).nN (fun c v hc q=>k c v ?_ q) (fun _ q=>q) fun _ _ q=>q
  rcases hc with z|z
  .rw[z];exact nit b u e
  .exact nit c _ z
theorem Inv.tok(I:Inv X pins Y H s)(t:Nat):Inv X pins Y H {s with toks:=t}:=I.un (h':=s.heap) (t':=t) Un.refl I.hok
theorem Inv.kept{t':Nat}(I:Inv X pins Y H s)(k:∀b u,s.heap.get? b=some u->h'.get? b=some u):Inv X pins Y H {s with heap:=h',toks:=t'}:=I.un (Un.kept k) (I.hok.kept k)
theorem Inv.laid{a:Addr}{o:HO}{t':Nat}(I:Inv X pins Y H s)(k:∀b u,s.heap.get? b=some u->h'.get? b=some u)(hp:s.heap.objs.size<=a)(new:b9 X.prog X.w (upd H a o) h' a o):
  Inv X pins Y (upd H a o) {s with heap:=h',toks:=t'}:=I.un (Un.laid k hp (I.hok.fresh hp)) (I.hok.laid k hp new)
theorem Inv.write{x e:Addr}{o:HO}{t':Nat}(I:Inv X pins Y H s)(mu:Mut (H x))(he:e=x\/H e=some (.own x))(k:∀b u,b≠e->s.heap.get? b=some u->h'.get? b=some u)(heo:∃u,h'.get? e=some u)
  (new:b9 X.prog X.w (upd H x o) h' x o):Inv X pins Y (upd H x o) {s with heap:=h',toks:=t'}:=I.un (Un.write mu he k heo) (I.hok.write mu he k heo new)
theorem Inv.weak{Y':List (Option V)}(I:Inv X pins Y H s)(hl:Y'.length=Y.length)(w:∀(i:Nat) v,Y'[i]?=some (some v)->Y[i]?=some (some v)):Inv X pins Y' H s:=
 ⟨I.ok,I.os,I.bare,I.base,let ⟨m,hn,hl'⟩:=I.loc;⟨m,hn,fun i x v e1 e2 e3=>hl' i x v e1 (w i v e2) e3⟩,I.cell,I.free,I.fw,I.pin,I.hok,hl.trans I.len⟩
theorem Inv.Dh{yb:List (Addr×Obj)}(I:Inv X pins Y H s)(h:∀p∈yb,s.heap.get? p.1=some p.2/\H p.1=none/\p.1≠X.env.locals/\p.1∉X.fs/\∀v,p.2.data≠.cell v):Inv X yb Y H s:=
 ⟨I.ok,I.os,I.bare,I.base,I.loc,I.cell,I.free,I.fw,fun p hp=>(mem_append.mp hp).elim (fun z=>I.pin p (mem_append_left _ z)) (h p),I.hok,I.len⟩
theorem qW{N:List Str}(hN:N.Nodup){i j:Nat}{x:Str}(a:N[i]?=some x)(b:N[j]?=some x):i=j:=by
 obtain⟨h1,e1⟩:=List.getElem?_eq_some_iff.mp a;obtain⟨h2,e2⟩:=List.getElem?_eq_some_iff.mp b;exact(List.getElem_inj hN).mp (e1.trans e2.symm)
theorem t5{M:Model}{A:Around}{E:Value->Shared->Prop}{i:Nat}{x:Str}{v:V}{u:Value}{Q:Unit->Shared->Prop}(I:Inv X pins Y H s)(hN:X.N.Nodup)(hi:X.N[i]?=some x)(hx:Loc X.env.scope x)(r:RelV v u)
  (h:∀s',Inv X pins (Y.set i (some v)) H s'->(∃a,Heap.SameBut a s.heap s'.heap/\(a=X.env.locals\/X.env.cells.lookup x=some a))->Q () s') (hf:X.fn x=true\/X.env.scope.names.lookup x=some .local:=by first|exact .inl rfl|exact .inr rfl|assumption):wpAny M A (storeName X.env x u) Q E s:=by
 obtain⟨m,hn,hl⟩:=id I.loc;have Yn:(X.env.scope.kind==.class||(X.env.scope.kind==.module&&X.env.locals != X.env.globals))=false:=by rw[I.ok.kind];rfl
 have hiY:i<Y.length:=by rw[I.len];exact(List.getElem?_eq_some_iff.mp hi).1
 have cne:=I.cne;have tracked:∀{a:Addr}{h':Heap},(∃o,s.heap.get? a=some o/\H a=none)->Heap.SameBut a s.heap h'->HOk X.prog X.w H h':=fun{a h'} ha hs b ob e=>by
  obtain⟨_,_,uA⟩:=ha;refine(I.hok b ob e).nN (fun c w' hc q=>(hs.2 c ?_).trans q) (fun _ q=>q) fun _ _ q=>q
  rintro rfl;rcases hc with rfl|hc
  .rw[uA]at e;cases e
  .rw[uA]at hc;cases hc
 rcases hx with hk|hk
 .refine wpAny_storeName_local hk hn (fun h' hn' hs=>?_) Yn;obtain⟨oL,_,_,hoL,_⟩:=id hn;refine h _ ⟨I.ok,I.os,I.bare,⟨fun b o e n hb hx=>?_,fun b o e n hb hx=>?_,I.base.free,fun b o e hx=>?_,I.base.lI,I.base.kj,I.base.kS⟩,⟨_,hn',fun j y v' e1 e2 e3=>?_⟩,fun y c e=>?_,I.free,I.fw,fun p hp=>?_,tracked ⟨oL,hoL,I.free⟩ hs,by simpa using I.len⟩ ⟨_,hs,.inl rfl⟩
  .exact(hs.2 b (ne_of_lt (lt_of_lt_of_le (Heap.lt_size e) I.ok.above))).trans (I.base.keep b o e n hb hx)
  .obtain⟨sl,e1⟩:=I.base.slot b o e n hb hx;exact⟨sl,(hs.2 b (ne_of_lt (lt_of_lt_of_le (Heap.lt_size e) I.ok.above))).trans e1⟩
  .obtain⟨o',e1⟩:=I.base.there b o e hx;exact⟨o',(hs.2 b (ne_of_lt (lt_of_lt_of_le (Heap.lt_size e) I.ok.above))).trans e1⟩
  .by_cases hj:j=i
   .subst hj;rw[hi]at e1;cases e1;rw[List.getElem?_set_self hiY]at e2;cases e2;exact⟨u,r,.inl ⟨hk,by simp⟩⟩
   .rw[List.getElem?_set_ne (Ne.symm hj)]at e2;obtain⟨u',r',q⟩:=hl j y v' e1 e2 e3;refine⟨u',r',?_⟩;rcases q with⟨k,e⟩|⟨k,c,e,z⟩
    .refine .inl ⟨k,?_⟩;have:y≠x:=fun e=>hj (qW hN e1 (e ▸ hi))
     simp[this,e]
    .exact .inr ⟨k,c,e,z.sameBut hs (cne y c e)⟩
  .obtain⟨w',z⟩:=I.cell y c e;exact⟨w',z.sameBut hs (cne y c e)⟩
  .obtain⟨e,n,ne,nf,d⟩:=I.pin p hp;exact⟨(hs.2 p.1 ne).trans e,n,ne,nf,d⟩
 .have hfn:X.fn x=true:=by
   rcases hf with z|z
   .exact z
   .rw[z]at hk;cases hk
  obtain⟨c,hc⟩:=I.ok.has x (.inl hk);obtain⟨w',z⟩:=I.cell x c hc;refine wpAny_storeName_cell I.ok.kind hk hc z (fun h' hc' hs=>?_);obtain⟨oc,hoc,XU⟩:=id z;refine h {s with heap:=h'} ⟨I.ok,I.os,I.bare,⟨fun b o e n hb hx=>?_,fun b o e n hb hx=>?_,I.base.free,fun b o e hx=>?_,I.base.lI,I.base.kj,I.base.kS⟩,⟨m,hn.sameBut hs (Ne.symm (cne x c hc)),fun j y v' e1 e2 e3=>?_⟩,fun y c' e=>?_,I.free,I.fw,fun p hp=>?_,tracked ⟨oc,hoc,I.fw x c hc⟩ hs,by simpa using I.len⟩ ⟨c,hs,.inr hc⟩
  .exact(hs.2 b (ne_of_lt (lt_of_lt_of_le (Heap.lt_size e) (I.ok.cab x c hfn hc)))).trans (I.base.keep b o e n hb hx)
  .obtain⟨sl,e1⟩:=I.base.slot b o e n hb hx;exact⟨sl,(hs.2 b (ne_of_lt (lt_of_lt_of_le (Heap.lt_size e) (I.ok.cab x c hfn hc)))).trans e1⟩
  .obtain⟨o',e1⟩:=I.base.there b o e hx;exact⟨o',(hs.2 b (ne_of_lt (lt_of_lt_of_le (Heap.lt_size e) (I.ok.cab x c hfn hc)))).trans e1⟩
  .by_cases hj:j=i
   .subst hj;rw[hi]at e1;cases e1;rw[List.getElem?_set_self hiY]at e2;cases e2;exact⟨u,r,.inr ⟨.inl hk,c,hc,hc'⟩⟩
   .rw[List.getElem?_set_ne (Ne.symm hj)]at e2;obtain⟨u',r',q⟩:=hl j y v' e1 e2 e3;refine⟨u',r',?_⟩;rcases q with q|⟨k,c',e,z'⟩
    .exact .inl q
    .refine .inr ⟨k,c',e,z'.sameBut hs ?_⟩;rintro rfl;exact hj (qW hN e1 (I.ok.inj _ _ _ e hc ▸ hi))
  .by_cases hcc:c'=c
   .subst hcc;exact⟨_,hc'⟩
   .obtain⟨w2,z2⟩:=I.cell y c' e;exact⟨w2,z2.sameBut hs hcc⟩
  .obtain⟨e,n,ne,nf,d⟩:=I.pin p hp;refine⟨(hs.2 p.1 ?_).trans e,n,ne,nf,d⟩;intro q;rw[q,hoc]at e;have q':oc=p.2:=Option.some.inj e;exact d w' (by rw[<-q'];exact XU)
theorem pY{M:Model}{A:Around}{E:Value->Shared->Prop}{i:Nat}{x:Str}{v:V}{u:Value}{Q:Unit->Shared->Prop}(I:Inv X pins Y H s)(hN:X.N.Nodup)(hi:X.N[i]?=some x)(hx:Loc X.env.scope x)(r:RelV v u)
  (h:∀s',Inv X pins (Y.set i (some v)) H s'->Q () s') (hf:X.fn x=true\/X.env.scope.names.lookup x=some .local:=by first|exact .inl rfl|exact .inr rfl|assumption):wpAny M A (storeName X.env x u) Q E s:=
 t5 I hN hi hx r (fun s' I' _=>h s' I') hf
theorem Inv.Px{s':Shared}{ch:List Addr}(I:Inv X pins Y H s)(ho:s'.os=s.os)(u:Un (frs X.stack) ch H H' s.heap s'.heap)(hok:HOk X.prog X.w H' s'.heap)(hg:AllBare s'.gens)
  (hch:∀b∈ch,(b∈X.ex\/X.s₀.heap.objs.size<=b)/\b≠X.env.locals/\(∀x c,X.env.cells.lookup x=some c->c≠b)/\∀p∈X.pn++pins,p.1≠b):Inv X pins Y H' s':=by
 obtain⟨h',g',d',t',o'⟩:=s';have e:o'=s.os:=ho;subst e;exact I.call (g':=g') (t':=t') (d':=d') u hok hg hch
end
abbrev XK:=Value->Option Addr->Hp->Prop
abbrev St:=List (Option V)
abbrev VK:=V->Hp->Prop
abbrev TE:=St->Hp->VK->Prop
abbrev TT:=St->Hp->(Bool->Hp->Prop)->Prop
abbrev TA:=St->Hp->(List V->Hp->Prop)->Prop
structure Ends where
 nx:St->Hp->Prop
 rt:VK
 bk:St->Hp->Prop:=fun _ _=>False
 ct:St->Hp->Prop:=fun _ _=>False
abbrev TS:=Ends->St->Hp->Prop
inductive EP(X:Cx)(pins:List (Addr×Obj))(Y:St)(Q:VK)(u:Value)(s':Shared):Prop where
 |mk (v:V)(H':Hp)(i:Inv X pins Y H' s')(r:RelV v u)(q:Q v H'):EP X pins Y Q u s'
inductive TP(X:Cx)(pins:List (Addr×Obj))(Y:St)(Q:Bool->Hp->Prop)(b:Bool)(s':Shared):Prop where
 |mk (H':Hp)(i:Inv X pins Y H' s')(q:Q b H'):TP X pins Y Q b s'
inductive AP(X:Cx)(pins:List (Addr×Obj))(Y:St)(Q:List V->Hp->Prop)(us:List Value)(s':Shared):Prop where
 |mk (vs:List V)(H':Hp)(i:Inv X pins Y H' s')(r:Vals vs us)(q:Q vs H'):AP X pins Y Q us s'
inductive SP1(X:Cx)(pins:List (Addr×Obj))(R:St->Hp->Prop)(s':Shared):Prop where
 |mk (Y':St)(H':Hp)(i:Inv X pins Y' H' s')(q:R Y' H'):SP1 X pins R s'
inductive SP2(X:Cx)(pins:List (Addr×Obj))(R:VK)(u:Value)(s':Shared):Prop where
 |mk (v:V)(Y':St)(H':Hp)(i:Inv X pins Y' H' s')(r:RelV v u)(q:R v H'):SP2 X pins R u s'
def SP(X:Cx)(pins:List (Addr×Obj))(D:Ends)(f:Flow)(s':Shared):Prop:=
 match f with
 |.next=>SP1 X pins D.nx s'
 |.brk=>SP1 X pins D.bk s'
 |.cont=>SP1 X pins D.ct s'
 |.ret u=>SP2 X pins D.rt u s'
def PE(X:Cx)(e:Expr)(t:TE):Prop:=
 ∀(pins:List (Addr×Obj))(s:Shared)(Y:St)(H:Hp)(Q:VK),Inv X pins Y H s->t Y H Q->wpAny (model X.prog X.w) X.A (eval e X.env) (EP X pins Y Q) X.xe s
def PT(X:Cx)(e:Expr)(t:TT):Prop:=
 ∀(pins:List (Addr×Obj))(s:Shared)(Y:St)(H:Hp)(Q:Bool->Hp->Prop),Inv X pins Y H s->t Y H Q->wpAny (model X.prog X.w) X.A (isTrue e X.env (eval e X.env)) (TP X pins Y Q) X.xe s
def PW(X:Cx)(e:Expr)(t:TT):Prop:=
 ∀(whole:Sem Value)(pins:List (Addr×Obj))(s:Shared)(Y:St)(H:Hp)(Q:Bool->Hp->Prop),Inv X pins Y H s->t Y H Q->wpAny (model X.prog X.w) X.A (isTrue e X.env whole) (TP X pins Y Q) X.xe s
theorem PW.pt{X:Cx}{e:Expr}{t:TT}(h:PW X e t):PT X e t:=h _
def PA(X:Cx)(es:List Expr)(t:TA):Prop:=
 ∀(pos:Pos)(pins:List (Addr×Obj))(s:Shared)(Y:St)(H:Hp)(Q:List V->Hp->Prop),Inv X pins Y H s->t Y H Q->wpAny (model X.prog X.w) X.A (spliced (backTo pos (starEach es X.env))) (AP X pins Y Q) X.xe s
def PS(X:Cx)(st:Stmt)(t:TS):Prop:=
 ∀(pins:List (Addr×Obj))(s:Shared)(Y:St)(H:Hp)(D:Ends),Inv X pins Y H s->t D Y H->wpAny (model X.prog X.w) X.A (exec st X.env) (SP X pins D) X.xe s
def PSs(X:Cx)(st:List Stmt)(t:TS):Prop:=
 ∀(pins:List (Addr×Obj))(s:Shared)(Y:St)(H:Hp)(D:Ends),Inv X pins Y H s->t D Y H->wpAny (model X.prog X.w) X.A (execs st X.env) (SP X pins D) X.xe s
theorem thn{I:Type}{t:Sem I}{Q Q':I->Shared->Prop}{M:Model}{A:Around}{E:Value->Shared->Prop}{s:Shared}(h:wpAny M A t Q E s)(hQ:∀a s,Q a s->Q' a s):wpAny M A t Q' E s:=wpAny_mono h hQ fun _ _ x=>x
section
variable{X:Cx}
inductive cU(i:Nat)(Y:St)(H:Hp)(Q:VK):Prop where
 |mk (v:V)(h:Y[i]?=some (some v))(q:Q v H):cU i Y H Q
def tC(v:V):TE:=fun _ H Q=>Q v H
theorem HK{i:Nat}{x:Str}{pos:Pos}(hN:X.N[i]?=some x)(hv:Vis X.env.scope x)(hd:(x==("__debug__":Str))=false:=by kernel_rfl)(hcd:(x==("__classdict__":Str))=false:=by decide):PE X (.Name x pos) (cU i):=by
 intro pins s Y H Q I h;obtain⟨v,e,h⟩:=h;obtain⟨m,hn,hl⟩:=I.loc;obtain⟨u,r,l⟩:=hl i x v hN e hv;have fin:EP X pins Y Q u s:=⟨v,H,I,r,h⟩;rcases l with⟨hk,hm⟩|⟨hk,c,hc,rQ⟩
 .exact wpAny_Name (wpAny_loadName_local I.ok.kind hk hn hm fin) hd
 .rcases hk with hk|hk
  .exact wpAny_Name (wpAny_loadName_cell I.ok.kind hk hc rQ fin) hd
  .exact wpAny_Name (wpAny_loadName_free I.ok.kind hk hc rQ fin hcd) hd
theorem ag{i j pos}:PE X (.Constant (.int i) j pos) (tC (.int i)):=fun _ _ _ H _ I h=>wpAny_Constant_int ⟨.int i,H,I.tok _,⟨_,rfl⟩,h⟩
theorem Pd{b j pos}:PE X (.Constant (.bool b) j pos) (tC (.bl b)):=fun _ _ _ H _ I h=>Constant_bool ⟨.bl b,H,I,rfl,h⟩
theorem aN{x j pos}:PE X (.Constant (.str x) j pos) (tC (.str x)):=fun _ _ _ H _ I h=>Calls.Constant_str ⟨.str x,H,I.tok _,⟨_,rfl⟩,h⟩
def Gl(X:Cx)(x:Str):Prop:=X.env.kindOf x=some .globalImplicit
theorem gY{E:Value->Shared->Prop}{pins:List (Addr×Obj)}{s:Shared}{Y:St}{H:Hp}{x:Str}{u:Value}{pos:Pos}{Q:Value->Shared->Prop}(I:Inv X pins Y H s)(hg:Gl X x)(hm:X.mg x=some u)(h:Q u s)
  (hd:(x==("__debug__":Str))=false:=by kernel_rfl):wpAny (model X.prog X.w) X.A (eval (.Name x pos) X.env) Q E s:=
 Calls.Name_function_global I.ok.kind hg (Calls.loadGlobal_global (by rw[I.ok.glob];exact I.mod.glob.keeps I.bk) hm h) hd
theorem jh{E:Value->Shared->Prop}{pins:List (Addr×Obj)}{s:Shared}{Y:St}{H:Hp}{x:Str}{u:Value}{pos:Pos}{Q:Value->Shared->Prop}(I:Inv X pins Y H s)(hg:Gl X x)(hm:X.mg x=none)(hv:bootBuiltins x=some u)(h:Q u s)
  (hn:x ≠ "__name__":=by decide) (hd:(x==("__debug__":Str))=false:=by kernel_rfl):wpAny (model X.prog X.w) X.A (eval (.Name x pos) X.env) Q E s:=by
 obtain⟨mb,h1,h2⟩:=I.mod.blt;exact Calls.Name_function_global I.ok.kind hg (Calls.loadGlobal_builtin (by rw[I.ok.glob];exact I.mod.glob.keeps I.bk) hm (by rw[I.ok.blt];exact h1.keeps I.bk) ((h2 x hn).trans hv) h) hd
theorem i6{x:Str}{v:V}{u:Value}{pos:Pos}(hg:Gl X x)(hm:X.mg x=some u)(r:RelV v u)(hd:(x==("__debug__":Str))=false:=by kernel_rfl):PE X (.Name x pos) (tC v):=
 fun _ _ _ H _ I h=>gY I hg hm ⟨v,H,I,r,h⟩ hd
variable{a b:Expr}{ta tb:TE}{pos:Pos}
def PC(X:Cx)(op:CmpOp)(a b:Expr)(t:TE):Prop:=
 ∀(pins:List (Addr×Obj))(s:Shared)(Y:St)(H:Hp)(Q:VK),Inv X pins Y H s->t Y H Q->
  wpAny (model X.prog X.w) X.A (eval a X.env) (fun v s₁=>wpAny (model X.prog X.w) X.A (eval b X.env) (fun u s₂=>wpAny (model X.prog X.w) X.A (compareOp op v u) (EP X pins Y Q) X.xe s₂) X.xe s₁) X.xe s
inductive RN(Q:Bool->Hp->Prop)(x:V)(H:Hp):Prop where
 |mk (k:Bool)(h:x=.bl k)(q:Q k H):RN Q x H
def tB(t:TE):TT:=fun Y H Q=>t Y H (RN Q)
theorem vS{op:CmpOp}{t:TE}(h:PC X op a b t)(h1:behindInMarks op b=false:=by first|exact Vx _ (by decide) (by decide)|rfl):PT X (.Compare a [op] [b] pos) (tB t):=by
 intro pins s Y H Q I hw;refine wpAny_isTrue_Compare1 (thn (h pins s Y H _ I hw) fun v s1 h1=>thn h1 fun u s2 h2=>thn h2 fun c s3 hZ=>?_) h1;obtain⟨x,H1,I1,r1,q1⟩:=hZ;obtain⟨d,rfl,q⟩:=q1;cases r1;exact wpAny_truthy_bool ⟨H1,I1,q⟩
theorem cV{e:Expr}{t:TE}(h:PE X e t)(he:∀whole,isTrue e X.env whole=(do let v <-whole;standAt e.pos;holding [v] (truthy v)):=by intro _;rfl):PT X e (tB t):=by
 intro pins s Y H Q I hw;refine isTrue_plain (thn (h pins s Y H _ I hw) fun v s1 hZ=>?_) (he _);obtain⟨x,H1,I1,r1,q1⟩:=hZ;obtain⟨d,rfl,q⟩:=q1;cases r1;exact wpAny_truthy_bool ⟨H1,I1,q⟩
variable{tA tB':TT}{rest:List Expr}
def WU(t u:TT):TT:=fun Y H Q=>t Y H fun c H1=>if c=true then u Y H1 Q else Q false H1
def tOr(t u:TT):TT:=fun Y H Q=>t Y H fun c H1=>if c=true then Q true H1 else u Y H1 Q
def UZ(t:TT):TT:=fun Y H Q=>t Y H fun c H1=>Q (!c) H1
theorem i4(ha:PT X a tA):PW X (.BoolOp .And [a] pos) tA:=by
 intro wh pins s Y H Q I h;refine isTrue_and (thn (ha pins s Y H Q I h) fun c s1 e=>?_);cases c with
 |true=>exact isTrue_and_nil e
 |false=>exact e
theorem lO(ha:PT X a tA):PW X (.BoolOp .Or [a] pos) tA:=by
 intro wh pins s Y H Q I h;refine isTrue_or (thn (ha pins s Y H Q I h) fun c s1 e=>?_);cases c with
 |false=>exact isTrue_or_nil e
 |true=>exact e
theorem lP(ha:PT X a tA)(hb:PW X (.BoolOp .And (b::rest) pos) tB'):PW X (.BoolOp .And (a::b::rest) pos) (WU tA tB'):=by
 intro wh pins s Y H Q I h;refine isTrue_and (thn (ha pins s Y H _ I h) fun c s1 ⟨H1,I1,q1⟩=>?_);cases c with
 |true=>exact hb wh pins s1 Y H1 Q I1 q1
 |false=>exact⟨H1,I1,q1⟩
theorem oQ(ha:PT X a tA)(hb:PW X (.BoolOp .Or (b::rest) pos) tB'):PW X (.BoolOp .Or (a::b::rest) pos) (tOr tA tB'):=by
 intro wh pins s Y H Q I h;refine isTrue_or (thn (ha pins s Y H _ I h) fun c s1 ⟨H1,I1,q1⟩=>?_);cases c with
 |true=>exact⟨H1,I1,q1⟩
 |false=>exact hb wh pins s1 Y H1 Q I1 q1
theorem gb(ha:PT X a tA):PT X (.UnaryOp .Not a pos) (UZ tA):=by
 intro pins s Y H Q I h;exact isTrue_not (thn (ha pins s Y H (fun c H1=>Q (!c) H1) I h) fun c s' ⟨H',i,q⟩=>⟨H',i,q⟩)
def U4(ta tb:TE):TE:=fun Y H Q=>ta Y H fun x H1=>∃c,x=.bl c/\if c=true then tb Y H1 Q else Q (.bl false) H1
def WN(ta tb:TE):TE:=fun Y H Q=>ta Y H fun x H1=>∃c,x=.bl c/\if c=true then Q (.bl true) H1 else tb Y H1 Q
def UY(ta:TE):TE:=fun Y H Q=>ta Y H fun x H1=>∃c,x=.bl c/\Q (.bl (!c)) H1
theorem Bi{op}{t:TE}(h:PE X a t):PE X (.BoolOp op [a] pos) t:=fun pins s Y H Q I hw=>BoolOp_one (h pins s Y H Q I hw)
theorem HQ(ha:PE X a ta)(hb:PE X (.BoolOp .And (b::rest) pos) tb):PE X (.BoolOp .And (a::b::rest) pos) (U4 ta tb):=by
 intro pins s Y H Q I h;refine BoolOp_and (thn (ha pins s Y H _ I h) fun v s1 hZ=>?_);obtain⟨x,H1,I1,r1,q1⟩:=hZ;obtain⟨c,rfl,q1⟩:=q1;cases r1;refine wpAny_truthy_bool ?_;cases c with
 |true=>exact hb pins s1 Y H1 Q I1 q1
 |false=>exact⟨.bl false,H1,I1,rfl,q1⟩
theorem Vm(ha:PE X a ta)(hb:PE X (.BoolOp .Or (b::rest) pos) tb):PE X (.BoolOp .Or (a::b::rest) pos) (WN ta tb):=by
 intro pins s Y H Q I h;refine BoolOp_or (thn (ha pins s Y H _ I h) fun v s1 hZ=>?_);obtain⟨x,H1,I1,r1,q1⟩:=hZ;obtain⟨c,rfl,q1⟩:=q1;cases r1;refine wpAny_truthy_bool ?_;cases c with
 |false=>exact hb pins s1 Y H1 Q I1 q1
 |true=>exact⟨.bl true,H1,I1,rfl,q1⟩
theorem RU(ha:PE X a ta):PE X (.UnaryOp .Not a pos) (UY ta):=by
 intro pins s Y H Q I h;refine UnaryOp_ (thn (ha pins s Y H _ I h) fun v s1 hZ=>?_);obtain⟨x,H1,I1,r1,q1⟩:=hZ;obtain⟨c,rfl,q1⟩:=q1;cases r1;exact not_of (wpAny_truthy_bool ⟨.bl (!c),H1,I1,rfl,q1⟩)
def tIf(t:TT)(ta tb:TE):TE:=fun Y H Q=>t Y H fun c H1=>if c=true then ta Y H1 Q else tb Y H1 Q
theorem mE{c:Expr}(hc:PT X c tA)(ha:PE X a ta)(hb:PE X b tb):PE X (.IfExp c a b pos) (tIf tA ta tb):=by
 intro pins s Y H Q I h;refine wpAny_IfExp (thn (hc pins s Y H _ I h) fun d s1 ⟨H1,I1,q1⟩=>?_);cases d with
 |true=>exact ha pins s1 Y H1 Q I1 q1
 |false=>exact hb pins s1 Y H1 Q I1 q1
end
def SqL(K:Frag)(H:Hp)(a:Addr)(xs:List V):Prop:=
 Rd H a (.lst xs) \/
  ∃(o:Obj)(its:Array Value)(n:Nat),K.lookup a=some o/\o.cls=.type "list"/\o.dict=none/\o.data=.seq its n/\its.size<=sizeLine/\Vals xs its.toList
def SqT(K:Frag)(H:Hp)(a:Addr)(xs:List V):Prop:=
 Rd H a (.tup xs) \/
  ∃(o:Obj)(its:Array Value)(n:Nat),K.lookup a=some o/\o.cls=.type "tuple"/\o.data=.seq its n/\its.size<=sizeLine/\Vals xs its.toList
def YJ:Value->Option V
 |.none=>some .non
 |.bool b=>some (.bl b)
 |.int i _=>some (.int i)
 |.str x _=>some (.str x)
 |.bytes b _=>some (.byt b)
 |.float b _=>some (.flt b)
 |.ref a=>some (.ref a)
 |.type n=>some (.ty n)
 |_=>none
theorem RelV.abs{x:V}{u:Value}(r:RelV x u):YJ u=some x:=by
 cases x with
 |non=>cases r;rfl
 |bl _=>cases r;rfl
 |int _=>obtain⟨t,rfl⟩:=r;rfl
 |str _=>obtain⟨t,rfl⟩:=r;rfl
 |byt _=>obtain⟨t,rfl⟩:=r;rfl
 |flt _=>obtain⟨t,rfl⟩:=r;rfl
 |ref _=>cases r;rfl
 |ty _=>cases r;rfl
theorem RelV.inj{x y:V}{u:Value}(r:RelV x u)(q:RelV y u):x=y:=Option.some.inj (r.abs.symm.trans q.abs)
theorem Vals.inj:∀{xs ys:List V}{us:List Value},Vals xs us->Vals ys us->xs=ys
 |_,_,_,.nil,.nil=>rfl
 |_,_,_,.cons r t,.cons r' t'=>by rw[r.inj r',Vals.inj t t']
section
variable{X:Cx}{pins:List (Addr×Obj)}{Y:St}{H:Hp}{s:Shared}{a:Addr}{xs ys:List V}
theorem SqL.of{K:Frag}(h:H a=some (.lst xs)):SqL K H a xs:=.inl (.inl h)
theorem SqT.of{K:Frag}(h:H a=some (.tup xs)):SqT K H a xs:=.inl (.inl h)
theorem Inv.list(I:Inv X pins Y H s)(h:SqL X.K H a xs):∃its:List Value,Vals xs its/\PlainL s.heap a its.toArray/\xs.length<=sizeLine:=by
 rcases h with h|⟨o,its,n,hk,hc,hd,hs,hz,r⟩
 .obtain⟨z,its,n,r,e⟩:=h.ok I.hok;exact⟨its,r,⟨_,n,e,rfl,rfl,rfl⟩,z⟩
 .refine⟨its.toList,r,⟨o,n,I.kIn a o hk,hc,hd,by simpa using hs⟩,?_⟩;have e:=r.length;simp only[Array.length_toList]at e;omega
theorem Inv.tuple(I:Inv X pins Y H s)(h:SqT X.K H a xs):∃its:List Value,Vals xs its/\IsTup s.heap a its.toArray/\xs.length<=sizeLine:=by
 rcases h with h|⟨o,its,n,hk,hc,hs,hz,r⟩
 .obtain⟨z,its,r,p⟩:=h.ok I.hok;exact⟨its,r,p,z⟩
 .refine⟨its.toList,r,⟨o,I.kIn a o hk,hc,n,by simpa using hs⟩,?_⟩;have e:=r.length;simp only[Array.length_toList]at e;omega
theorem Inv.rC(I:Inv X pins Y H s)(h:SqL X.K H a xs)(h':SqL X.K H a ys):xs=ys:=by
 obtain⟨its,r,⟨o,n,e,_,_,d⟩,_⟩:=I.list h;obtain⟨its',r',⟨o',n',e',_,_,d'⟩,_⟩:=I.list h';rw[e]at e';cases e';rw[d]at d';injection d' with d1 _
 have:its=its':=by simpa using congrArg Array.toList d1
 subst this;exact r.inj r'
theorem Inv.tY(I:Inv X pins Y H s)(h:SqT X.K H a xs)(h':SqT X.K H a ys):xs=ys:=by
 obtain⟨its,r,⟨o,e,_,n,d⟩,_⟩:=I.tuple h;obtain⟨its',r',⟨o',e',_,n',d'⟩,_⟩:=I.tuple h';rw[e]at e';cases e';rw[d]at d';injection d' with d1 _
 have:its=its':=by simpa using congrArg Array.toList d1
 subst this;exact r.inj r'
end
abbrev Cx.sV(X:Cx)(E:Value->Shared->Prop):Cx:={X with xe:=E}
abbrev Cx.nox(X:Cx):Cx:=X.sV fun _ _=>False
theorem Cx.Ok.sV{X:Cx}(ok:X.Ok)(E:Value->Shared->Prop):(X.sV E).Ok:=
 ⟨ok.mod,ok.kind,ok.glob,ok.blt,ok.above,ok.inj,ok.has,ok.cab,ok.hd,ok.frames,ok.stk,ok.exf,ok.bs,ok.bsz,ok.yn,ok.zr,ok.jE,ok.frf⟩
theorem Cx.Ok.jJ{X:Cx}{E:Value->Shared->Prop}(ok:(X.sV E).Ok):X.Ok:=
 ⟨ok.mod,ok.kind,ok.glob,ok.blt,ok.above,ok.inj,ok.has,ok.cab,ok.hd,ok.frames,ok.stk,ok.exf,ok.bs,ok.bsz,ok.yn,ok.zr,ok.jE,ok.frf⟩
section
variable{X:Cx}{pins:List (Addr×Obj)}{Y:St}{H:Hp}{s:Shared}{E:Value->Shared->Prop}
theorem Inv.sV(I:Inv X pins Y H s)(E:Value->Shared->Prop):Inv (X.sV E) pins Y H s:=⟨I.ok.sV E,I.os,I.bare,I.base,I.loc,I.cell,I.free,I.fw,I.pin,I.hok,I.len⟩
theorem Inv.jJ(I:Inv (X.sV E) pins Y H s):Inv X pins Y H s:=⟨I.ok.jJ,I.os,I.bare,I.base,I.loc,I.cell,I.free,I.fw,I.pin,I.hok,I.len⟩
theorem SP.jJ{D:Ends}{f:Flow}{s':Shared}(h:SP (X.sV E) pins D f s'):SP X pins D f s':=by
 cases f with
 |next=>obtain⟨Y',H',I,q⟩:=h;exact⟨Y',H',I.jJ,q⟩
 |brk=>obtain⟨Y',H',I,q⟩:=h;exact⟨Y',H',I.jJ,q⟩
 |cont=>obtain⟨Y',H',I,q⟩:=h;exact⟨Y',H',I.jJ,q⟩
 |ret u=>obtain⟨v,Y',H',I,r,q⟩:=h;exact⟨v,Y',H',I.jJ,r,q⟩
theorem PSs.nox{st:List Stmt}{t:TS}(h:PSs X.nox st t):PSs X st t:=fun pins s Y H D I hw=>
 wpAny_mono (h pins s Y H D (I.sV _) hw) (fun _ _ q=>q.jJ) fun _ _ z=>False.elim z
end
section
variable{X:Cx}{st:Stmt}{rest:List Stmt}{t u:TS}{e:Expr}{te:TE}{pos:Pos}
def Gn:TS:=fun D Y H=>D.nx Y H
def D9(t u:TS):TS:=fun D Y H=>t {D with nx:=u D} Y H
theorem aI:PSs X [] Gn:=fun _ _ Y H _ I h=>wpAny_execs_nil ⟨Y,H,I,h⟩
theorem aa(h1:PS X st t)(h2:PSs X rest u):PSs X (st::rest) (D9 t u):=by
 intro pins s Y H D I h;refine wpAny_execs_cons (thn (h1 pins s Y H {D with nx:=u D} I h) fun f s1 q=>?_);cases f with
 |next=>
  obtain⟨Y',H',I',q⟩:=q;exact h2 pins s1 Y' H' D I' q
 |ret v=>exact q
 |brk=>exact q
 |cont=>exact q
theorem ah(h1:PS X st t):PSs X [st] t:=by
 intro pins s Y H D I h;refine wpAny_execs_cons (thn (h1 pins s Y H D I h) fun f s1 q=>?_);cases f with
 |next=>exact wpAny_execs_nil q
 |ret v=>exact q
 |brk=>exact q
 |cont=>exact q
theorem Inv.quiet{pins:List (Addr×Obj)}{Y:St}{H:Hp}{s:Shared}(I:Inv X pins Y H s):interactive X.env=false:=by simp[interactive,I.ok.kind]
def CO(te:TE):TS:=fun D Y H=>te Y H fun _ H1=>D.nx Y H1
theorem aK(he:PE X e te)(hs:swapsWith e none pos.line X.env=pure false:=by rfl):PS X (.Expr e pos) (CO te):=by
 intro pins s Y H D I h;exact wpAny_Expr_any (thn (he pins s Y H _ I h) fun v s1 ⟨x,H1,I1,r1,q1⟩=>⟨Y,H1,I1,q1⟩) I.quiet hs
def Gk(te:TE):TS:=fun D Y H=>te Y H D.rt
theorem aD(he:PE X e te):PS X (.Return (some e) pos) (Gk te):=by
 intro pins s Y H D I h;exact wpAny_Return_some (thn (he pins s Y H _ I h) fun v s1 ⟨x,H1,I1,r1,q1⟩=>⟨x,Y,H1,I1,r1,q1⟩)
def U2(c:TT)(t u:TS):TS:=fun D Y H=>c Y H fun b H1=>if b=true then t D Y H1 else u D Y H1
theorem aR{c:Expr}{a b:List Stmt}{tc:TT}(hc:PT X c tc)(ha:PSs X a t)(hb:PSs X b u):PS X (.If c a b pos) (U2 tc t u):=by
 intro pins s Y H D I h;refine wpAny_If (thn (hc pins s Y H _ I h) fun d s1 ⟨H1,I1,q1⟩=>?_);cases d with
 |true=>exact ha pins s1 Y H1 D I1 q1
 |false=>exact hb pins s1 Y H1 D I1 q1
end
abbrev TG:=V->St->Hp->(St->Hp->Prop)->Prop
abbrev TGs:=List V->St->Hp->(St->Hp->Prop)->Prop
def PG(X:Cx)(target:Expr)(t:TG):Prop:=
 ∀(pins:List (Addr×Obj))(s:Shared)(Y:St)(H:Hp)(v:V)(u:Value)(Q:St->Hp->Prop),Inv X pins Y H s->RelV v u->t v Y H Q->
  wpAny (model X.prog X.w) X.A (assign target X.env u) (fun _ s'=>∃Y' H',Inv X pins Y' H' s'/\Q Y' H') X.xe s
def PGs(X:Cx)(ts:List Expr)(t:TGs):Prop:=
 ∀(pins:List (Addr×Obj))(s:Shared)(Y:St)(H:Hp)(vs:List V)(us:List Value)(Q:St->Hp->Prop),Inv X pins Y H s->Vals vs us->t vs Y H Q->
  wpAny (model X.prog X.w) X.A (assignInOrder ((assignEach ts X.env).map (·.2)) us) (fun _ s'=>∃Y' H',Inv X pins Y' H' s'/\Q Y' H') X.xe s
abbrev UN:=V->V->V->Hp->(Hp->Prop)->Prop
def WH(X:Cx)(t:UN):Prop:=
 ∀(pins:List (Addr×Obj))(s:Shared)(Y:St)(H:Hp)(o i v:V)(ov iv u:Value)(Q:Hp->Prop),Inv X pins Y H s->RelV o ov->RelV i iv->RelV v u->t o i v H Q->
  wpAny (model X.prog X.w) X.A (setItem ov iv u) (fun _ s'=>∃H',Inv X pins Y H' s'/\Q H') X.xe s
abbrev TIp:=V->V->Hp->VK->Prop
def PIp(X:Cx)(op:Operator)(t:TIp):Prop:=
 ∀(pins:List (Addr×Obj))(s:Shared)(Y:St)(H:Hp)(x y:V)(v u:Value)(Q:VK),Inv X pins Y H s->RelV x v->RelV y u->t x y H Q->
  wpAny (model X.prog X.w) X.A (inplaceOp op v u) (EP X pins Y Q) X.xe s
section
variable{X:Cx}{pos:Pos}
def g9(i:Nat):TG:=fun v Y H Q=>Q (Y.set i (some v)) H
theorem bG(i:Nat){x:Str}(hN:X.N.Nodup)(hi:X.N[i]?=some x:=by rfl)(hx:Loc X.env.scope x:=by first|exact Or.inl rfl|exact Or.inr rfl)(hf:X.fn x=true\/X.env.scope.names.lookup x=some .local:=by first|exact .inl rfl|exact .inr rfl|assumption):PG X (.Name x pos) (g9 i):=by
 intro pins s Y H v u Q I r h;exact wpAny_assign_Name (pY I hN hi hx r (fun s' I'=>⟨_,H,I',h⟩) hf)
def MY:TGs:=fun vs Y H Q=>vs=[]/\Q Y H
def rX(t:TG)(u:TGs):TGs:=fun vs Y H Q=>∃v r,vs=v::r/\t v Y H fun Y' H'=>u r Y' H' Q
theorem Di:PGs X [] MY:=by
 intro pins s Y H vs us Q I r h;obtain⟨e,h⟩:=h;subst e;cases r;exact assignInOrder_nil ⟨Y,H,I,h⟩
theorem mD{e:Expr}{es:List Expr}{t:TG}{u:TGs}(h1:PG X e t)(h2:PGs X es u)
  (hs:(assignEach (e::es) X.env).map (·.2)=assign e X.env::(assignEach es X.env).map (·.2):=by rfl):PGs X (e::es) (rX t u):=by
 intro pins s Y H vs us Q I r h;obtain⟨v,vr,e1,h⟩:=h;subst e1;cases r with
 |cons r rr=>
  rw[hs];refine assignInOrder_cons (thn (h1 pins s Y H _ _ _ I r h) fun _ s1 hZ=>?_);obtain⟨Y1,H1,I1,q1⟩:=hZ;exact h2 pins s1 Y1 H1 _ _ Q I1 rr q1
def MX(K:Frag)(n:Nat)(t:TGs):TG:=fun v Y H Q=>∃a xs,v=.ref a/\SqT K H a xs/\xs.length=n/\t xs Y H Q
theorem HI{es:List Expr}{k:Nat}{t:TGs}{n:Nat}(hc:X.calm=true)(h:PGs X es t)
  (hn:(assignEach es X.env).length=n:=by rfl) (hst:(assignEach es X.env).findIdx? (·.1)=none:=by rfl):PG X (.Tuple es k pos) (MX X.K n t):=by
 intro pins s Y H v u Q I r hw;obtain⟨a,xs,e1,hq,hl,hw⟩:=hw;subst e1;cases r;obtain⟨its,rv,ht,hz⟩:=I.tuple hq;refine assign_Tuple_tuple (I.ok.hd hc) ht (by simp[hn,<-hl,rv.length]) hst fun h' hx=>?_
 have I1:Inv X pins Y H {s with heap:=h'}:=I.kept (t':=s.toks) fun b o e=>hx b o (ne_of_lt (Heap.lt_size e)) e
 exact h pins _ Y H xs _ Q I1 (by simpa using rv) hw
def YC(to ti:TE)(t:UN):TG:=fun v Y H Q=>to Y H fun o H1=>ti Y H1 fun i H2=>t o i v H2 fun H3=>Q Y H3
theorem Bh{o i:Expr}{to ti:TE}{t:UN}(ho:PE X o to)(hi:PE X i ti)(hs:WH X t)
  (ha:∀v,assign (.Subscript o i pos) X.env v=(do
   let ov <-holding [v] (eval o X.env)
   let iv <-holding [v,ov] (eval i X.env)
   standAt pos
   holding [v,ov,iv] (setItem ov iv v)
   release [v,ov,iv] []):=by intro _;rfl):PG X (.Subscript o i pos) (YC to ti t):=by
 intro pins s Y H v u Q I r h;rw[ha];refine wpAny_bind (wpAny_holding (thn (ho pins s Y H _ I h) fun ov s1 hZ=>?_));obtain⟨x,H1,I1,r1,q1⟩:=hZ;refine wpAny_bind (wpAny_holding (thn (hi pins s1 Y H1 _ I1 q1) fun iv s2 hZ=>?_));obtain⟨y,H2,I2,r2,q2⟩:=hZ;refine wpAny_bind (wpAny_standAt (wpAny_bind (wpAny_holding (thn (hs pins s2 Y H2 x y v ov iv u _ I2 r1 r2 r q2) fun _ s3 hZ=>?_))));obtain⟨H3,I3,q3⟩:=hZ;exact wpAny_release ⟨Y,H3,I3,q3⟩
def Ea(te:TE)(g:TG):TS:=fun D Y H=>te Y H fun x H1=>g x Y H1 D.nx
theorem Bd{tg e:Expr}{te:TE}{g:TG}(he:PE X e te)(hg:PG X tg g)(hs:swapsWithSole [tg] e pos.line X.env=pure false:=by rfl)(hw:swappedStores [tg] e X.env=pure none:=by rfl)
  (h1:(assignEach [tg] X.env).map (·.2)=[assign tg X.env]:=by rfl):PS X (.Assign [tg] e pos) (Ea te g):=by
 intro pins s Y H D I h;refine wpAny_Assign_stores (thn (he pins s Y H _ I h) fun v s1 hZ=>?_) hs hw;obtain⟨x,H1,I1,r1,q1⟩:=hZ;rw[h1];exact thn (hg pins s1 Y H1 x v _ I1 r1 q1) fun _ s2 ⟨Y',H',i,q⟩=>⟨Y',H',i,q⟩
theorem aw(i:Nat){x:Str}{e:Expr}{te:TE}{pos':Pos}(hN:X.N.Nodup)(he:PE X e te)(hi:X.N[i]?=some x:=by rfl)(hx:Loc X.env.scope x:=by first|exact Or.inl rfl|exact Or.inr rfl)(hs:swapsWith e (some (.Name x pos')) pos.line X.env=pure false:=by rfl)(hf:X.fn x=true\/X.env.scope.names.lookup x=some .local:=by first|exact .inl rfl|exact .inr rfl|assumption):
  PS X (.Assign [.Name x pos'] e pos) (Ea te (g9 i)):=by
 intro pins s Y H D I h;refine wpAny_Assign_Name (thn (he pins s Y H _ I h) fun v s1 hZ=>?_) hs;obtain⟨y,H1,I1,r1,q1⟩:=hZ;exact pY I1 hN hi hx r1 (fun s2 I2=>⟨_,H1,I2,q1⟩) hf
def WT(i:Nat)(te:TE)(ti:TIp):TS:=fun D Y H=>∃x,Y[i]?=some (some x)/\te Y H fun y H1=>ti x y H1 fun z H2=>D.nx (Y.set i (some z)) H2
theorem RP{i:Nat}{x:Str}{e:Expr}{te:TE}{op:Operator}{ti:TIp}{pos':Pos}(hN:X.N.Nodup)(hi:X.N[i]?=some x)(hx:Loc X.env.scope x)(he:PE X e te)(ho:PIp X op ti)(hf:X.fn x=true\/X.env.scope.names.lookup x=some .local:=by first|exact .inl rfl|exact .inr rfl|assumption):
  PS X (.AugAssign (.Name x pos') op e pos) (WT i te ti):=by
 intro pins s Y H D I h;obtain⟨v,e1,h⟩:=h;obtain⟨m,hn,hl⟩:=I.loc;have vis:Vis X.env.scope x:=by rcases hx with k|k;exact .inl k;exact .inr (.inl k)
 obtain⟨u,r,l⟩:=hl i x v hi e1 vis;refine wpAny_AugAssign_Name ?_;have go:wpAny (model X.prog X.w) X.A (eval e X.env) (fun w s₂=>wpAny (model X.prog X.w) X.A (inplaceOp op u w) (fun r s₃=>wpAny (model X.prog X.w) X.A (storeName X.env x r) (fun _=>SP X pins D .next) X.xe s₃) X.xe s₂) X.xe s:=by
  refine thn (he pins s Y H _ I h) fun w s1 hZ=>?_
  obtain⟨y,H1,I1,r1,q1⟩:=hZ;refine thn (ho pins s1 Y H1 v y u w _ I1 r r1 q1) fun z s2 hZ=>?_
  obtain⟨zv,H2,I2,r2,q2⟩:=hZ;exact pY I2 hN hi hx r2 (fun s3 I3=>⟨_,H2,I3,q2⟩) hf
 rcases l with⟨hk,hm⟩|⟨hk,c,hc,rQ⟩
 .exact wpAny_loadName_local I.ok.kind hk hn hm go
 .rcases hk with hk|hk
  .exact wpAny_loadName_cell I.ok.kind hk hc rQ go
  .rcases hx with k|k
   .have:X.env.scope.names.lookup x=some .free:=hk;rw[k]at this;cases this
   .have:X.env.scope.names.lookup x=some .free:=hk;rw[k]at this;cases this
inductive ipI(f:Int->Int->Int)(x y:V)(H:Hp)(Q:VK):Prop where
 |mk (i j:Int)(_:x=.int i)(_:y=.int j)(q:Q (.int (f i j)) H):ipI f x y H Q
theorem TZ:PIp X .Add (ipI fun i j=>i+j):=by
 intro pins s Y H x y v u Q I r1 r2 h;obtain⟨i,j,e1,e2,q⟩:=h;subst e1;subst e2;obtain⟨t,rfl⟩:=r1;obtain⟨t',rfl⟩:=r2;exact iadd_int ⟨.int _,H,I.tok _,⟨_,rfl⟩,q⟩
end
section
variable{X:Cx}{pos:Pos}
def QQ(c:TT)(tb:TS):TS:=fun D Y H=>∃W:Nat->St->Hp->Prop,(∃m,W m Y H)/\∀m Y H,W m Y H->
 c Y H fun b H1=>if b=true then ∃N:St->Hp->Prop,(∀Y' H',N Y' H'->∃m',m'<m/\W m' Y' H')/\tb {D with nx:=N,ct:=N,bk:=D.nx} Y H1 else D.nx Y H1
theorem eu{c:Expr}{body:List Stmt}{tc:TT}{tb:TS}(hc:PT X c tc)(hb:PSs X body tb)(hp:PassesOwn (model X.prog X.w) X.A X.env X.xe:=by first|exact PassesOwn.never|exact PassesOwn.leaving):PS X (.While c body [] pos) (QQ tc tb):=by
 intro pins s Y H D I h;obtain⟨W,⟨m0,w0⟩,turn⟩:=h;refine wpAny_While (codeAny_whileLoop (fun n s'=>∃Y' H',Inv X pins Y' H' s'/\W n Y' H') ?_ m0 ⟨Y,H,I,w0⟩);rintro n s1 ⟨Y1,H1,I1,w1⟩;refine wpAny_passesOwn hp (thn (hc pins s1 Y1 H1 _ I1 (turn n Y1 H1 w1)) fun b s2 ⟨H2,I2,q2⟩=>?_);cases b with
 |true=>
  obtain⟨N,hN,q2⟩:=q2;rw[if_pos rfl];refine wpAny_passesOwn hp (thn (hb pins s2 Y1 H2 _ I2 q2) fun f s3 q3=>?_);cases f with
  |next=>
   obtain⟨Y3,H3,I3,n3⟩:=q3;obtain⟨m',hm,w3⟩:=hN Y3 H3 n3;exact⟨m',hm,Y3,H3,I3,w3⟩
  |cont=>
   obtain⟨Y3,H3,I3,n3⟩:=q3;obtain⟨m',hm,w3⟩:=hN Y3 H3 n3;exact⟨m',hm,Y3,H3,I3,w3⟩
  |brk=>exact q3
  |ret v=>exact q3
 |false=>
  rw[if_neg Bool.false_ne_true];exact wpAny_execs_nil ⟨Y1,H2,I2,q2⟩
end
structure It where
 go:Nat->Hp->Prop
 yld:Nat->Hp->V->Hp->Prop
 stop:Nat->Hp->Prop
def pH(X:Cx)(pins:List (Addr×Obj))(H:Hp)(b:Addr):Prop:=
 H b=none/\b≠X.env.locals/\b∉X.fs/\(b∈X.ex\/X.s₀.heap.objs.size<=b)/\(∀x c,X.env.cells.lookup x=some c->c≠b)/\∀p∈X.pn++pins,p.1≠b
theorem Inv.Ft{X:Cx}{pins:List (Addr×Obj)}{Y:St}{H H':Hp}{s:Shared}{b:Addr}(I:Inv X pins Y H s)(hb:s.heap.objs.size<=b)(hn:H' b=none):pH X pins H' b:=by
 refine⟨hn,ne_of_gt (lt_of_lt_of_le I.lt hb),I.Vv hb,.inr (le_trans I.sz hb),fun x c e z=>?_,fun p hp z=>?_⟩
 .obtain⟨v,q⟩:=I.cell x c e;exact absurd (lt_of_lt_of_le q.lt (by rw[z];exact hb)) (lt_irrefl _)
 .exact absurd (lt_of_lt_of_le (Heap.lt_size (I.pin p hp).1) (by rw[z];exact hb)) (lt_irrefl _)
structure Turn(P:Program)(w:World)(K:Frag)(tg:Expr)(J:It)(fp:List Addr)(it:Addr)(tn:Nat->Heap->Prop):Prop where
 mem:it∈fp
 obj:∀i h,tn i h->∀b∈fp,∃o,h.get? b=some o/\∀v,o.data≠.cell v
 keep:∀i h h',tn i h->(∀b∈fp,∀o,h.get? b=some o->h'.get? b=some o)->tn i h'
 item:∀(X:Cx),X.prog=P->X.w=w->X.K=K->X.calm=true->∀(i:Nat)(pins:List (Addr×Obj))(s:Shared)(Y:St)(H:Hp)(E:Value->Shared->Prop),Inv X pins Y H s->(∀b∈fp,pH X pins H b)->tn i s.heap->J.go i H->
  wpAny (model P w) X.A (pyNext (.ref it)) (fun r s1=>∃u,r=some u/\
   wpAny (model P w) X.A (letOwnedTupleGo tg (.ref it) u) (fun _ s2=>∃x H',Inv X pins Y H' s2/\RelV x u/\J.yld i H x H'/\tn (i+1) s2.heap/\∀b∈fp,H' b=none) E s1) E s
 done:∀(X:Cx),X.prog=P->X.w=w->X.K=K->X.calm=true->∀(i:Nat)(pins:List (Addr×Obj))(s:Shared)(Y:St)(H:Hp)(E:Value->Shared->Prop),Inv X pins Y H s->(∀b∈fp,pH X pins H b)->tn i s.heap->J.stop i H->
  wpAny (model P w) X.A (pyNext (.ref it)) (fun r s1=>r=none/\Inv X pins Y H s1) E s
 self:∀(A:Around)(i:Nat)(s:Shared)(Q:Value->Shared->Prop)(E:Value->Shared->Prop),tn i s.heap->Q (.ref it) s->wpAny (model P w) A (pyIter (.ref it)) Q E s
abbrev TI:=St->Hp->(It->Hp->Prop)->Prop
inductive PIE(X:Cx)(pins:List (Addr×Obj))(Y:St)(tg:Expr)(R:It->Hp->Prop)(itv:Value)(s2:Shared):Prop where
 |mk (it:Addr)(fp:List Addr)(tn:Nat->Heap->Prop)(J:It)(H':Hp)(e:itv=.ref it)(i:Inv X pins Y H' s2)(t:Turn X.prog X.w X.K tg J fp it tn)(z:tn 0 s2.heap)(f:∀b∈fp,pH X pins H' b)(q:R J H'):PIE X pins Y tg R itv s2
def PI(X:Cx)(tg iter:Expr)(wi:TI):Prop:=
 ∀(pins:List (Addr×Obj))(s:Shared)(Y:St)(H:Hp)(R:It->Hp->Prop),Inv X pins Y H s->wi Y H R->
  wpAny (model X.prog X.w) X.A (eval iter X.env) (fun v s1=>wpAny (model X.prog X.w) X.A (pyIter v) (PIE X pins Y tg R) X.xe s1) X.xe s
theorem rS{M:Model}{A:Around}{E:Value->Shared->Prop}{s:Shared}{tg:Expr}{it:Addr}{u:Value}{o:Obj}{n:String}{vs:Array Value}{Q:Unit->Shared->Prop}(ho:s.heap.get? it=some o)(hc:o.cls=.type n)(hd:o.data=.fields vs)
  (hn:["enumerate","zip","dict_itemiterator","dict_reverseitemiterator","odict_iterator","itertools.zip_longest","itertools.pairwise"].contains n=false) (hQ:Q () s):wpAny M A (letOwnedTupleGo tg (.ref it) u) Q E s:=by
 unfold letOwnedTupleGo;cases tg<;>first
  |exact wpAny_pure hQ
  |(cases u<;>first
    |exact wpAny_pure hQ
    |(refine wpAny_bind (wpAny_load ho ?_)
      rw[hc,hd];show wpAny M A (if (["enumerate","zip","dict_itemiterator","dict_reverseitemiterator","odict_iterator","itertools.zip_longest","itertools.pairwise"].contains n&&vs[0]?==some (rawInt _))=true then _ else _) Q E s;rw[if_neg (by intro h;rw[hn,Bool.false_and]at h;cases h)]
      exact wpAny_pure hQ))
def Itl(K:Frag)(a:Addr):It:=
 ⟨fun i H=>∃xs x,SqL K H a xs/\xs[i]?=some x,fun i H x H'=>H'=H/\∀xs,SqL K H a xs->xs[i]?=some x,fun i H=>∃xs,SqL K H a xs/\xs.length<=i⟩
def Itt(K:Frag)(a:Addr):It:=
 ⟨fun i H=>∃xs x,SqT K H a xs/\xs[i]?=some x,fun i H x H'=>H'=H/\∀xs,SqT K H a xs->xs[i]?=some x,fun i H=>∃xs,SqT K H a xs/\xs.length<=i⟩
def Itr(lo:Int)(n:Nat):It:=⟨fun i _=>i<n,fun i H x H'=>H'=H/\x=.int (lo+i),fun i _=>n<=i⟩
theorem D3{P:Program}{w:World}{K:Frag}{tg:Expr}(a it:Addr):Turn P w K tg (Itl K a) [it] it (fun i h=>h.IsListIter it a i) where
 mem:=by simp
 obj:=fun i h st b hb=>by
  have e:b=it:=by simpa using hb
  subst e;obtain⟨o,e,c,d⟩:=st;exact⟨o,e,fun v z=>by rw[d]at z;cases z⟩
 keep:=fun i h h' st k=>st.at fun o e=>k it (by simp) o e
 item:=by
  intro X hP hw hK hc i pins s Y H E I hf st hg;subst hP hw hK;obtain⟨xs,x,hq,hx⟩:=hg;obtain⟨its,rv,p,hz⟩:=I.list hq;obtain⟨u,hu,ru⟩:=rv.get hx;obtain⟨f0,f1,f2,f3,f4,f5⟩:=hf it (by simp);refine wpAny_pyNext_list_item st p.isList (x:=u) (by simpa using hu) fun h' st' sb=>?_
  have I1:Inv X pins Y H {s with heap:=h'}:=I.turned (t':=s.toks) (fun b o hb e=>(sb.2 b hb).trans e) f0 f1 f3 f4 f5;obtain⟨o,e,c,d⟩:=id st';exact⟨u,rfl,rS (s:={s with heap:=h'}) e c d (by decide) ⟨x,H,I1,ru,⟨rfl,fun ys hy=>by rw[I.rC hy hq];exact hx⟩,st',fun b hb=>(hf b hb).1⟩⟩
 done:=by
  intro X hP hw hK hc i pins s Y H E I hf st hg;subst hP hw hK;obtain⟨xs,hq,hx⟩:=hg;obtain⟨its,rv,p,hz⟩:=I.list hq;obtain⟨f0,f1,f2,f3,f4,f5⟩:=hf it (by simp);have hl:=rv.length;exact wpAny_pyNext_list_end (I.ok.hd hc) st p.isList (by simp;omega) fun h' eb=>⟨rfl,I.turned (t':=s.toks) (fun b o hb e=>eb b o hb e) f0 f1 f3 f4 f5⟩
 self:=fun _ _ _ _ _ st h=>wpAny_pyIter_listiter st h
theorem AD{P:Program}{w:World}{K:Frag}{tg:Expr}(a it:Addr):Turn P w K tg (Itt K a) [it] it (fun i h=>h.IsTupleIter it a i) where
 mem:=by simp
 obj:=fun i h st b hb=>by
  have e:b=it:=by simpa using hb
  subst e;obtain⟨o,e,c,d⟩:=st;exact⟨o,e,fun v z=>by rw[d]at z;cases z⟩
 keep:=fun i h h' st k=>st.at fun o e=>k it (by simp) o e
 item:=by
  intro X hP hw hK hc i pins s Y H E I hf st hg;subst hP hw hK;obtain⟨xs,x,hq,hx⟩:=hg;obtain⟨its,rv,p,hz⟩:=I.tuple hq;obtain⟨u,hu,ru⟩:=rv.get hx;obtain⟨f0,f1,f2,f3,f4,f5⟩:=hf it (by simp);refine wpAny_pyNext_tuple_item st (show s.heap.IsTuple a its.toArray from p) (x:=u) (by simpa using hu) fun h' st' sb=>?_
  have I1:Inv X pins Y H {s with heap:=h'}:=I.turned (t':=s.toks) (fun b o hb e=>(sb.2 b hb).trans e) f0 f1 f3 f4 f5;obtain⟨o,e,c,d⟩:=id st';exact⟨u,rfl,rS (s:={s with heap:=h'}) e c d (by decide) ⟨x,H,I1,ru,⟨rfl,fun ys hy=>by rw[I.tY hy hq];exact hx⟩,st',fun b hb=>(hf b hb).1⟩⟩
 done:=by
  intro X hP hw hK hc i pins s Y H E I hf st hg;subst hP hw hK;obtain⟨xs,hq,hx⟩:=hg;obtain⟨its,rv,p,hz⟩:=I.tuple hq;obtain⟨f0,f1,f2,f3,f4,f5⟩:=hf it (by simp);have hl:=rv.length;exact wpAny_pyNext_tuple_end (I.ok.hd hc) st (show s.heap.IsTuple a its.toArray from p) (by simp;omega) fun h' eb=>⟨rfl,I.turned (t':=s.toks) (fun b o hb e=>eb b o hb e) f0 f1 f3 f4 f5⟩
 self:=fun _ _ _ _ _ st h=>wpAny_pyIter_tupleiter st h
theorem AE{P:Program}{w:World}{K:Frag}{tg:Expr}(it:Addr)(lo:Int)(n:Nat):Turn P w K tg (Itr lo n) [it] it (fun i h=>IsRangeIter h it (lo+(i:Nat)*1) ((n:Int)-(i:Nat)) 1) where
 mem:=by simp
 obj:=fun i h st b hb=>by
  have e:b=it:=by simpa using hb
  subst e;exact⟨_,st,fun v z=>by
   have z':Data.fields _=Data.cell v:=z
   cases z'⟩
 keep:=fun i h h' st k=>k it (by simp) _ st
 item:=by
  intro X hP hw hK hc i pins s Y H E I hf st hg;subst hP hw hK;obtain⟨f0,f1,f2,f3,f4,f5⟩:=hf it (by simp);have W:=Walks.range (prog:=X.prog) (w:=X.w) (I.ok.hd hc) it lo 1 n;refine W.item i s _ _ hg st fun v h' tk hv st' kk=>?_
  obtain⟨t,rfl⟩:=hv;have I1:Inv X pins Y H {s with heap:=h',toks:=tk}:=I.turned (fun b o hb e=>kk b o (by simpa using hb) e) f0 f1 f3 f4 f5;refine⟨_,rfl,rS (s:={s with heap:=h',toks:=tk}) (n:="range_iterator") st' rfl rfl (by decide) ⟨.int (lo+i),H,I1,⟨t,?_⟩,⟨rfl,rfl⟩,st',fun b hb=>(hf b hb).1⟩⟩;rw[Int.mul_one]
 done:=by
  intro X hP hw hK hc i pins s Y H E I hf st hg;subst hP hw hK;obtain⟨f0,f1,f2,f3,f4,f5⟩:=hf it (by simp);exact wpAny_pyNext_range_end (I.ok.hd hc) st (by have:n<=i:=hg;omega) fun h' eb=>⟨rfl,I.turned (t':=s.toks) (fun b o hb e=>eb b o hb e) f0 f1 f3 f4 f5⟩
 self:=fun _ _ _ _ _ st h=>wpAny_pyIter_rangeiter st h
section
variable{X:Cx}{tg:Expr}
def VU(K:Frag)(tl:TE):TI:=fun Y H R=>tl Y H fun x H1=>∃a,x=.ref a/\(∃xs,SqL K H1 a xs)/\R (Itl K a) H1
def Xt(K:Frag)(tl:TE):TI:=fun Y H R=>tl Y H fun x H1=>∃a,x=.ref a/\(∃xs,SqT K H1 a xs)/\R (Itt K a) H1
theorem kM{l:Expr}{tl:TE}(hl:PE X l tl):PI X tg l (VU X.K tl):=by
 intro pins s Y H R I h;refine thn (hl pins s Y H _ I h) fun v s1 hZ=>?_
 obtain⟨x,H1,I1,r1,q1⟩:=hZ;obtain⟨a,e,⟨xs,hq⟩,q⟩:=q1;subst e;cases r1;obtain⟨its,rv,p,hz⟩:=I1.list hq;refine wpAny_pyIter_list p.isList ?_;refine⟨s1.heap.objs.size,[s1.heap.objs.size],_,_,H1,rfl,I1.kept (t':=s1.toks) fun b o e=>Heap.get?_push_of_some _ e,D3 a _,⟨_,Heap.get?_push_size _ rfl,rfl,rfl⟩,fun b hb=>?_,q⟩;have e:b=s1.heap.objs.size:=by simpa using hb
 subst e;exact I1.Ft (le_refl _) (I1.hok.fresh (le_refl _))
theorem HG{l:Expr}{tl:TE}(hl:PE X l tl):PI X tg l (Xt X.K tl):=by
 intro pins s Y H R I h;refine thn (hl pins s Y H _ I h) fun v s1 hZ=>?_
 obtain⟨x,H1,I1,r1,q1⟩:=hZ;obtain⟨a,e,⟨xs,hq⟩,q⟩:=q1;subst e;cases r1;obtain⟨its,rv,p,hz⟩:=I1.tuple hq;refine wpAny_pyIter_tuple (show s1.heap.IsTuple a its.toArray from p) ?_;refine⟨s1.heap.objs.size,[s1.heap.objs.size],_,_,H1,rfl,I1.kept (t':=s1.toks) fun b o e=>Heap.get?_push_of_some _ e,AD a _,⟨_,Heap.get?_push_size _ rfl,rfl,rfl⟩,fun b hb=>?_,q⟩;have e:b=s1.heap.objs.size:=by simpa using hb
 subst e;exact I1.Ft (le_refl _) (I1.hok.fresh (le_refl _))
theorem x6{pins:List (Addr×Obj)}{Y:St}{H:Hp}{s:Shared}{R:It->Hp->Prop}{E:Value->Shared->Prop}{lo hi:Int}{t u v:Tok}{tk:Nat}(I:Inv X pins Y H s)(h1:-(2^62)<=lo)(h2:lo<2^62)(h3:-(2^62)<=hi)(h4:hi<2^62)
  (q:R (Itr lo (hi-lo).toNat) H):wpAny (model X.prog X.w) X.A (pyIter (.ref s.heap.objs.size)) (PIE X pins Y tg R) E {s with heap:=s.heap.push {cls:=.type "range",data:=.fields #[.int lo t,.int hi u,.int 1 v]},toks:=tk}:=by
 refine wpAny_pyIter_range (IsRange.new ..) (small_one h1 h2 h3 h4) ?_;have I1:Inv X pins Y H {s with heap:=s.heap.push {cls:=.type "range",data:=.fields #[.int lo t,.int hi u,.int 1 v]},toks:=tk}:=I.kept fun b o e=>Heap.get?_push_of_some _ e
 refine⟨(s.heap.push {cls:=.type "range",data:=.fields #[.int lo t,.int hi u,.int 1 v]}).objs.size,[(s.heap.push {cls:=.type "range",data:=.fields #[.int lo t,.int hi u,.int 1 v]}).objs.size],_,_,H,rfl,
  I1.kept (t':=tk) fun b o e=>Heap.get?_push_of_some _ e,AE _ lo (hi-lo).toNat,?_,fun b hb=>?_,q⟩
 .have e1:lo+((0:Nat):Int)*1=lo:=by simp
  have e2:(((hi-lo).toNat:Nat):Int)-((0:Nat):Int)=Builtin.Range.rangeSize lo hi 1:=by rw[rangeSize_one];split<;>omega
  show IsRangeIter _ _ (lo+((0:Nat):Int)*1) ((((hi-lo).toNat:Nat):Int)-((0:Nat):Int)) 1;rw[e1,e2];exact Heap.get?_push_size _ rfl
 .have e:b=(s.heap.push {cls:=.type "range",data:=.fields #[.int lo t,.int hi u,.int 1 v]}).objs.size:=by simpa using hb
  subst e;exact I1.Ft (le_refl _) (I1.hok.fresh (le_refl _))
def VT(ta:TA):TI:=fun Y H R=>ta Y H fun vs H1=>∃j:Int,vs=[.int j]/\-(2^62)<=j/\j<2^62/\R (Itr 0 j.toNat) H1
def VS(ta:TA):TI:=fun Y H R=>ta Y H fun vs H1=>∃i j:Int,vs=[.int i,.int j]/\(-(2^62)<=i/\i<2^62/\-(2^62)<=j/\j<2^62)/\R (Itr i (j-i).toNat) H1
theorem ue{a:Expr}{ta:TA}{p pos:Pos}(hg:Gl X "range")(hm:X.mg "range"=none)(ha:PA X [a] ta)(hs:starEach [a] X.env=[(false,eval a X.env)]:=by rfl):PI X tg (.Call (.Name "range" p) [a] [] pos) (VT ta):=by
 intro pins s Y H R I h;refine Call_ (jh I hg hm boot_range (PyProof.Rows.callWith_type1 (thn (ha pos pins s Y H _ I h) fun us s1 hZ=>?_) hs rfl));obtain⟨vs,H1,I1,r1,q1⟩:=hZ;obtain⟨j,e,q1,q2,q⟩:=q1;subst e;cases r1 with
 |cons r rr=>
  cases rr;obtain⟨t,rfl⟩:=r;exact call_range_1 (x6 I1 (by omega) (by omega) q1 q2 (by simpa using q))
theorem nZ{a b:Expr}{ta:TA}{p pos:Pos}(hg:Gl X "range")(hm:X.mg "range"=none)(ha:PA X [a,b] ta)(hs:starEach [a,b] X.env=[(false,eval a X.env),(false,eval b X.env)]:=by rfl)(hs2:starEach [b] X.env=[(false,eval b X.env)]:=by rfl):
  PI X tg (.Call (.Name "range" p) [a,b] [] pos) (VS ta):=by
 intro pins s Y H R I h;refine Call_ (jh I hg hm boot_range (PyProof.Rows.callWith_type1 (thn (ha pos pins s Y H _ I h) fun us s1 hZ=>?_) (by rw[hs,hs2]) (by rw[hs2];rfl)));obtain⟨vs,H1,I1,r1,q1⟩:=hZ;obtain⟨i,j,e,⟨q1,q2,q3,q4⟩,q⟩:=q1;subst e;cases r1 with
 |cons r rr=>
  cases rr with
  |cons r' rr=>
   cases rr;obtain⟨t,rfl⟩:=r;obtain⟨t',rfl⟩:=r';exact call_range_2 (x6 I1 q1 q2 q3 q4 q)
def WR(wi:TI)(g:TG)(tb:TS):TS:=fun D Y H=>wi Y H fun J H1=>∃W:Nat->Nat->St->Hp->Prop,(∃m,W 0 m Y H1)/\∀i m Y H,W i m Y H->
 (J.stop i H/\D.nx Y H)\/(J.go i H/\∃N:St->Hp->Prop,(∀Y' H',N Y' H'->∃m',m'<m/\W (i+1) m' Y' H')/\∀x H',J.yld i H x H'->g x Y H' fun Y2 H2=>tb {D with nx:=N,ct:=N,bk:=D.nx} Y2 H2)
def qJ(fp:List Addr)(h:Heap):List (Addr×Obj):=fp.filterMap fun b=>(h.get? b).map fun o=>(b,o)
theorem lU{fp:List Addr}{h:Heap}{b:Addr}{o:Obj}(hb:b∈fp)(e:h.get? b=some o):(b,o)∈qJ fp h:=mem_filterMap.mpr ⟨b,hb,by rw[e];rfl⟩
theorem EC{fp:List Addr}{h:Heap}{p:Addr×Obj}(hp:p∈qJ fp h):p.1∈fp/\h.get? p.1=some p.2:=by
 obtain⟨b,hb,e⟩:=mem_filterMap.mp hp;cases q:h.get? b with
 |none=>rw[q]at e;cases e
 |some o=>
  rw[q]at e;have e':(b,o)=p:=Option.some.inj e;subst e';exact⟨hb,q⟩
theorem Inv.pinned{pins:List (Addr×Obj)}{Y:St}{H:Hp}{s:Shared}{fp:List Addr}(I:Inv X pins Y H s)(hf:∀b∈fp,pH X pins H b)(ho:∀b∈fp,∃o,s.heap.get? b=some o/\∀v,o.data≠.cell v):Inv X (pins++qJ fp s.heap) Y H s:=
 I.Dh fun p hp=>(mem_append.mp hp).elim (fun z=>I.pin p (mem_append_right _ z)) fun z=>by
  obtain⟨hb,e⟩:=EC z;obtain⟨f0,f1,f2,_⟩:=hf p.1 hb;obtain⟨o,e',d⟩:=ho p.1 hb;rw[e]at e';cases e';exact⟨e,f0,f1,f2,d⟩
theorem Inv.mf{pins pl:List (Addr×Obj)}{Y:St}{H:Hp}{s:Shared}(I:Inv X (pins++pl) Y H s):Inv X pins Y H s:=I.Dh fun p hp=>I.pin p (mem_append_right _ (mem_append_left _ hp))
theorem fH{iter:Expr}{body:List Stmt}{wi:TI}{g:TG}{tb:TS}{pos:Pos}(hi:PI X tg iter wi)(hg:PG X tg g)(hb:PSs X body tb)(hp:PassesOwn (model X.prog X.w) X.A X.env X.xe:=by first|exact PassesOwn.never|exact PassesOwn.leaving)(hc:X.calm=true:=by rfl)
  (hs:∀x,foldedSetIterable iter X.env x=pure x:=by intro _;rfl):PS X (.For tg iter body [] pos) (WR wi g tb):=by
 intro pins s Y H D I h;refine wpAny_For (thn (hi pins s Y H _ I h) fun v s1 h1=>thn h1 fun itv s2 h2=>?_) hs;obtain⟨it,fp,tn,J,H2,e,I2,T,st2,f2,W,⟨m0,w0⟩,turn⟩:=h2;subst e;have AI:∀{H':Hp},(∀b∈fp,H' b=none)->∀b∈fp,pH X pins H' b:=fun hn b hb=>⟨hn b hb,(f2 b hb).2⟩
 refine codeAny_forLoop_any (fun n s'=>∃i Y' H',Inv X pins Y' H' s'/\tn i s'.heap/\(∀b∈fp,H' b=none)/\W i n Y' H') ?_ m0 ⟨0,Y,H2,I2,st2,fun b hb=>(f2 b hb).1,w0⟩;rintro n s3 ⟨i,Y3,H3,I3,st3,fr3,w3⟩;rcases turn i n Y3 H3 w3 with⟨stop,qn⟩|⟨go,N,hN,step⟩
 .refine wpAny_passesOwn hp (thn (T.done X rfl rfl rfl hc i pins s3 Y3 H3 X.xe I3 (AI fr3) st3 stop) fun r s4 hZ=>?_);obtain⟨hr,I4⟩:=hZ;subst hr;exact wpAny_execs_nil ⟨Y3,H3,I4,qn⟩
 .refine wpAny_passesOwn hp (thn (T.item X rfl rfl rfl hc i pins s3 Y3 H3 X.xe I3 (AI fr3) st3 go) fun r s4 hZ=>?_);obtain⟨u,hr,h4⟩:=hZ;subst hr;refine wpAny_passesOwn hp (thn h4 fun _ s5 hZ=>?_);obtain⟨x,H5,I5,r5,y5,st5,fr5⟩:=hZ;have I5':=I5.pinned (AI fr5) (T.obj _ _ st5);refine wpAny_passesOwn hp (thn (hg _ s5 Y3 H5 x u _ I5' r5 (step x H5 y5)) fun _ s6 hZ=>?_);obtain⟨Y6,H6,I6,q6⟩:=hZ;refine wpAny_passesOwn hp (thn (hb _ s6 Y6 H6 _ I6 q6) fun f s7 q7=>?_);have again:∀{Y7:St}{H7:Hp},Inv X (pins++qJ fp s5.heap) Y7 H7 s7->N Y7 H7->∃m,m<n/\∃i Y' H',Inv X pins Y' H' s7/\tn i s7.heap/\(∀b∈fp,H' b=none)/\W i m Y' H':=fun{Y7 H7} I7 n7=>by
   obtain⟨m',hm,w7⟩:=hN Y7 H7 n7;refine⟨m',hm,i+1,Y7,H7,I7.mf,T.keep _ _ _ st5 fun b hb o e=>(I7.pin (b,o) (mem_append_right _ (mem_append_right _ (lU hb e)))).1,fun b hb=>?_,w7⟩;obtain⟨o,e,d⟩:=T.obj _ _ st5 b hb;exact(I7.pin (b,o) (mem_append_right _ (mem_append_right _ (lU hb e)))).2.1
  cases f with
  |next=>obtain⟨Y7,H7,I7,n7⟩:=q7;exact again I7 n7
  |cont=>obtain⟨Y7,H7,I7,n7⟩:=q7;exact again I7 n7
  |brk=>obtain⟨Y7,H7,I7,q7⟩:=q7;exact⟨Y7,H7,I7.mf,q7⟩
  |ret v=>obtain⟨x7,Y7,H7,I7,r7,q7⟩:=q7;exact⟨x7,Y7,H7,I7.mf,r7,q7⟩
end
theorem mX{K:Frag}{a:Addr}{xs:List V}{g:TG}{tb:TS}{D:Ends}{Y:St}{H:Hp}(Pv:Nat->St->Hp->Prop)(h0:Pv 0 Y H)(hl:∀i Y H,i<=xs.length->Pv i Y H->SqL K H a xs)
  (hs:∀i x Y H,xs[i]?=some x->Pv i Y H->g x Y H fun Y2 H2=>tb {D with nx:=Pv (i+1),ct:=Pv (i+1),bk:=D.nx} Y2 H2) (hd:∀Y H,Pv xs.length Y H->D.nx Y H):
  ∃W:Nat->Nat->St->Hp->Prop,(∃m,W 0 m Y H)/\∀i m Y H,W i m Y H->
   ((Itl K a).stop i H/\D.nx Y H)\/((Itl K a).go i H/\∃N:St->Hp->Prop,(∀Y' H',N Y' H'->∃m',m'<m/\W (i+1) m' Y' H')/\∀x H',(Itl K a).yld i H x H'->g x Y H' fun Y2 H2=>tb {D with nx:=N,ct:=N,bk:=D.nx} Y2 H2):=by
 refine⟨fun i m Y H=>m=xs.length-i/\i<=xs.length/\Pv i Y H,⟨xs.length,by simp,zero_le _,h0⟩,?_⟩;rintro i m Y H ⟨rfl,hi,p⟩;have q:=hl i Y H hi p;by_cases hlt:i<xs.length
 .refine .inr ⟨⟨xs,xs[i],q,by simp[hlt]⟩,Pv (i+1),fun Y' H' p'=>⟨xs.length-(i+1),by omega,rfl,hlt,p'⟩,fun x H' y=>?_⟩;obtain⟨e,y⟩:=y;subst e;exact hs i x Y _ (y xs q) p
 .have e:i=xs.length:=by omega
  subst e;exact .inl ⟨⟨xs,q,le_refl _⟩,hd Y H p⟩
theorem iJ{lo:Int}{n:Nat}{g:TG}{tb:TS}{D:Ends}{Y:St}{H:Hp}(Pv:Nat->St->Hp->Prop)(h0:Pv 0 Y H)
  (hs:∀i Y H,i<n->Pv i Y H->g (.int (lo+i)) Y H fun Y2 H2=>tb {D with nx:=Pv (i+1),ct:=Pv (i+1),bk:=D.nx} Y2 H2) (hd:∀Y H,Pv n Y H->D.nx Y H):
  ∃W:Nat->Nat->St->Hp->Prop,(∃m,W 0 m Y H)/\∀i m Y H,W i m Y H->
   ((Itr lo n).stop i H/\D.nx Y H)\/((Itr lo n).go i H/\∃N:St->Hp->Prop,(∀Y' H',N Y' H'->∃m',m'<m/\W (i+1) m' Y' H')/\∀x H',(Itr lo n).yld i H x H'->g x Y H' fun Y2 H2=>tb {D with nx:=N,ct:=N,bk:=D.nx} Y2 H2):=by
 refine⟨fun i m Y H=>m=n-i/\i<=n/\Pv i Y H,⟨n,by simp,zero_le _,h0⟩,?_⟩;rintro i m Y H ⟨rfl,hi,p⟩;by_cases hlt:i<n
 .refine .inr ⟨hlt,Pv (i+1),fun Y' H' p'=>⟨n-(i+1),by omega,rfl,hlt,p'⟩,fun x H' y=>?_⟩;obtain⟨e,y⟩:=y;subst e y;exact hs i Y _ hlt p
 .have e:i=n:=by omega
  subst e;exact .inl ⟨le_refl _,hd Y H p⟩
abbrev R2:=V->V->Hp->VK->Prop
def OpR(X:Cx)(f:Value->Value->Sem Value)(r:R2):Prop:=
 ∀(pins:List (Addr×Obj))(s:Shared)(Y:St)(H:Hp)(x y:V)(v u:Value)(Q:VK),Inv X pins Y H s->RelV x v->RelV y u->r x y H Q->
  wpAny (model X.prog X.w) X.A (f v u) (EP X pins Y Q) X.xe s
def UnR(X:Cx)(f:Value->Sem Value)(r:V->Hp->VK->Prop):Prop:=
 ∀(pins:List (Addr×Obj))(s:Shared)(Y:St)(H:Hp)(x:V)(v:Value)(Q:VK),Inv X pins Y H s->RelV x v->r x H Q->
  wpAny (model X.prog X.w) X.A (f v) (EP X pins Y Q) X.xe s
def iQ(X:Cx)(f:Value)(r:List V->Hp->VK->Prop):Prop:=
 ∀(pins:List (Addr×Obj))(s:Shared)(Y:St)(H:Hp)(xs:List V)(us:List Value)(Q:VK),Inv X pins Y H s->Vals xs us->r xs H Q->
  wpAny (model X.prog X.w) X.A (call f us) (EP X pins Y Q) X.xe s
def tOp(r:R2)(ta tb:TE):TE:=fun Y H Q=>ta Y H fun x H1=>tb Y H1 fun y H2=>r x y H2 Q
def tUn(r:V->Hp->VK->Prop)(ta:TE):TE:=fun Y H Q=>ta Y H fun x H1=>r x H1 Q
inductive rI(C:Int->Int->Prop)(g:Int->Int->V)(x y:V)(H:Hp)(Q:VK):Prop where
 |mk (i j:Int)(_:x=.int i)(_:y=.int j)(c:C i j)(q:Q (g i j) H):rI C g x y H Q
inductive rI0(g:Int->Int->V)(x y:V)(H:Hp)(Q:VK):Prop where
 |mk (i j:Int)(_:x=.int i)(_:y=.int j)(q:Q (g i j) H):rI0 g x y H Q
inductive rU(g:Int->V)(x:V)(H:Hp)(Q:VK):Prop where
 |mk (i:Int)(h:x=.int i)(q:Q (g i) H):rU g x H Q
section
variable{X:Cx}{a b c:Expr}{ta tb tc:TE}{pos:Pos}
theorem UK(ha:PE X a ta)(hb:PE X b tb){pins:List (Addr×Obj)}{s:Shared}{Y:St}{H:Hp}{R:V->V->Hp->Prop}(I:Inv X pins Y H s)
  (h:ta Y H fun x H1=>tb Y H1 fun y H2=>R x y H2) {Q:Value->Shared->Prop} {f:Value->Value->Sem Value}
  (hf:∀v u s2 x y H2,Inv X pins Y H2 s2->RelV x v->RelV y u->R x y H2->wpAny (model X.prog X.w) X.A (f v u) Q X.xe s2):
  wpAny (model X.prog X.w) X.A (eval a X.env) (fun v s₁=>wpAny (model X.prog X.w) X.A (eval b X.env) (fun u s₂=>wpAny (model X.prog X.w) X.A (f v u) Q X.xe s₂) X.xe s₁) X.xe s:=by
 refine thn (ha pins s Y H _ I h) fun v s1 hZ=>?_
 obtain⟨x,H1,I1,r1,q1⟩:=hZ;refine thn (hb pins s1 Y H1 _ I1 q1) fun u s2 hZ=>?_
 obtain⟨y,H2,I2,r2,q2⟩:=hZ;exact hf v u s2 x y H2 I2 r1 r2 q2
theorem ao{op:Operator}{r:R2}(ho:OpR X (binaryOp op) r)(ha:PE X a ta)(hb:PE X b tb):PE X (.BinOp a op b pos) (tOp r ta tb):=by
 intro pins s Y H Q I h;exact wpAny_BinOp (UK ha hb I h fun v u s2 x y H2 I2 rx ry q=>ho pins s2 Y H2 x y v u Q I2 rx ry q)
theorem ju{op:UnaryOp}{r:V->Hp->VK->Prop}(ho:UnR X (unaryOp op) r)(ha:PE X a ta):PE X (.UnaryOp op a pos) (tUn r ta):=by
 intro pins s Y H Q I h;exact UnaryOp_ (thn (ha pins s Y H _ I h) fun v s1 ⟨x,H1,I1,r1,q1⟩=>ho pins s1 Y H1 x v Q I1 r1 q1)
theorem opI{f:Value->Value->Sem Value}{C:Int->Int->Prop}{g:Int->Int->Int}
  (rule:∀(i j:Int)(t u:Tok)(s:Shared)(Q:Value->Shared->Prop)(E:Value->Shared->Prop),C i j->Q (.int (g i j) s.toks) {s with toks:=s.toks+1}->wpAny (model X.prog X.w) X.A (f (.int i t) (.int j u)) Q E s):
  OpR X f (rI C fun i j=>.int (g i j)):=by
 intro pins s Y H x y v u Q I rx ry h;obtain⟨i,j,rfl,rfl,hc,q⟩:=h;obtain⟨t,rfl⟩:=rx;obtain⟨t',rfl⟩:=ry;exact rule i j t t' s _ _ hc ⟨.int (g i j),H,I.tok _,⟨_,rfl⟩,q⟩
theorem Vq{f:Value->Value->Sem Value}{g:Int->Int->Int}
  (rule:∀(i j:Int)(t u:Tok)(s:Shared)(Q:Value->Shared->Prop)(E:Value->Shared->Prop),Q (.int (g i j) s.toks) {s with toks:=s.toks+1}->wpAny (model X.prog X.w) X.A (f (.int i t) (.int j u)) Q E s):
  OpR X f (rI0 fun i j=>.int (g i j)):=by
 intro pins s Y H x y v u Q I rx ry h;obtain⟨i,j,rfl,rfl,q⟩:=h;obtain⟨t,rfl⟩:=rx;obtain⟨t',rfl⟩:=ry;exact rule i j t t' s _ _ ⟨.int (g i j),H,I.tok _,⟨_,rfl⟩,q⟩
theorem RZ{f:Value->Value->Sem Value}{g:Int->Int->Bool}
  (rule:∀(i j:Int)(t u:Tok)(s:Shared)(Q:Value->Shared->Prop)(E:Value->Shared->Prop),Q (.bool (g i j)) s->wpAny (model X.prog X.w) X.A (f (.int i t) (.int j u)) Q E s):
  OpR X f (rI0 fun i j=>.bl (g i j)):=by
 intro pins s Y H x y v u Q I rx ry h;obtain⟨i,j,rfl,rfl,q⟩:=h;obtain⟨t,rfl⟩:=rx;obtain⟨t',rfl⟩:=ry;exact rule i j t t' s _ _ ⟨.bl (g i j),H,I,rfl,q⟩
def YL(i j:Int):Prop:=0<j/\j<1073741824
def YK(i j:Int):Prop:=0<=j/\j<=1000000/\i.natAbs<2^64
def Aq(i j:Int):Prop:=(-(2^64)<i/\i<2^64)\/(-(2^64)<j/\j<2^64)
theorem Aq.ok{i j:Int}(h:Aq i j):IntMulOk i j:=by
 rcases h with⟨h1,h2⟩|⟨h1,h2⟩
 .exact .of_left (intBits_le_64 h1 h2)
 .exact .of_right (intBits_le_64 h1 h2)
theorem aQ:OpR X (binaryOp .Add) (rI0 fun i j=>.int (i+j)):=Vq fun _ _ _ _ _ _ _ q=>add_int q
theorem cg:OpR X (binaryOp .Sub) (rI0 fun i j=>.int (i-j)):=Vq fun _ _ _ _ _ _ _ q=>sub_int q
theorem aH:OpR X (binaryOp .Mult) (rI Aq fun i j=>.int (i*j)):=opI fun _ _ _ _ _ _ _ hc q=>mul_int q hc.ok
theorem i9:OpR X (binaryOp .FloorDiv) (rI YL fun i j=>.int (i/j)):=opI fun i j _ _ _ _ _ hc q=>by
 have h1:(0:Int)<j:=hc.1;have h2:j<1073741824:=hc.2;exact floordiv_int (by omega) (by rw[Int.fdiv_eq_ediv_of_nonneg i (by omega)];exact q) (.inl (PyProof.noPylong_small (by omega)))
theorem qQ:OpR X (binaryOp .Mod) (rI (fun _ j=>0<j) fun i j=>.int (i%j)):=opI fun i j _ _ _ _ _ hc q=>by
 have h1:(0:Int)<j:=hc;exact mod_int' (by omega) (by rw[Int.fmod_eq_emod_of_nonneg i (by omega)];exact q)
theorem RX:OpR X (binaryOp .LShift) (rI YK fun i j=>.int (i*2^j.toNat)):=opI fun _ _ _ _ _ _ _ hc q=>lshift_int_small hc.1 hc.2.1 hc.2.2 q
theorem unI{f:Value->Sem Value}{g:Int->Int}
  (rule:∀(i:Int)(t:Tok)(s:Shared)(Q:Value->Shared->Prop)(E:Value->Shared->Prop),Q (.int (g i) s.toks) {s with toks:=s.toks+1}->wpAny (model X.prog X.w) X.A (f (.int i t)) Q E s):
  UnR X f (rU fun i=>.int (g i)):=by
 intro pins s Y H x v Q I rx h;obtain⟨i,rfl,q⟩:=h;obtain⟨t,rfl⟩:=rx;exact rule i t s _ _ ⟨.int (g i),H,I.tok _,⟨_,rfl⟩,q⟩
theorem fZ:UnR X (unaryOp .USub) (rU fun i=>.int (-i)):=unI fun _ _ _ _ _ q=>neg_int q
end
def U8:V->V->Bool
 |.non,.non=>true|.non,.int _=>true|.int _,.non=>true|.non,.bl _=>true|.bl _,.non=>true|.non,.str _=>true|.str _,.non=>true
 |.int _,.int _=>true|.bl _,.bl _=>true|.str _,.str _=>true|.byt _,.byt _=>true
 |.int _,.str _=>true|.str _,.int _=>true|.bl _,.str _=>true|.str _,.bl _=>true
 |_,_=>false
def rEq:R2:=fun x y H Q=>U8 x y=true/\Q (.bl (decide (x=y))) H
def rNe:R2:=fun x y H Q=>U8 x y=true/\Q (.bl (!decide (x=y))) H
theorem DD{i j:Int}:decide (V.int i=V.int j)=(i==j):=by
 rw[Bool.eq_iff_iff];simp
theorem Jq{i j:Bool}:decide (V.bl i=V.bl j)=(i==j):=by
 rw[Bool.eq_iff_iff];simp
theorem DC{i j:Str}:decide (V.str i=V.str j)=(i==j):=by
 rw[Bool.eq_iff_iff];simp
theorem DE{i j:Array UInt8}:decide (V.byt i=V.byt j)=(i.toList==j.toList):=by
 rw[Bool.eq_iff_iff];cases i;cases j;simp
section
variable{X:Cx}{a b c:Expr}{ta tb tc:TE}{pos:Pos}
theorem bA{pins:List (Addr×Obj)}{Y:St}{H:Hp}{s:Shared}{Q:VK}{k k':Bool}(I:Inv X pins Y H s)(q:Q (.bl k) H)(e:k=k'):EP X pins Y Q (.bool k') s:=by
 subst e;exact⟨.bl k,H,I,rfl,q⟩
theorem dr:OpR X (compareOp .Eq) rEq:=by
 intro pins s Y H x y v u Q I rx ry h;obtain⟨hs,q⟩:=h;cases x with
 |non=>
  cases rx;cases y with
  |non=>cases ry;exact PySem.EqNone.eq_none_none (bA I q (by simp))
  |bl j=>cases ry;exact PySem.EqNone.eq_none_bool (bA I q (by simp))
  |int j=>obtain⟨t',rfl⟩:=ry;exact PySem.EqNone.eq_none_int (bA I q (by simp))
  |str j=>obtain⟨t',rfl⟩:=ry;exact PySem.EqNone.eq_none_str (bA I q (by simp))
  |_=>exact absurd (show false=true from hs) Bool.false_ne_true
 |bl i=>
  cases rx;cases y with
  |non=>cases ry;exact PySem.EqNone.eq_bool_none (bA I q (by simp))
  |bl j=>cases ry;exact eq_bool (bA I q Jq)
  |str j=>obtain⟨t',rfl⟩:=ry;exact PySem.EqMixed.eq_bool_str (bA I q (by simp))
  |_=>exact absurd (show false=true from hs) Bool.false_ne_true
 |int i=>
  obtain⟨t,rfl⟩:=rx;cases y with
  |non=>cases ry;exact PySem.EqNone.eq_int_none (bA I q (by simp))
  |int j=>obtain⟨t',rfl⟩:=ry;exact eq_int (bA I q DD)
  |str j=>obtain⟨t',rfl⟩:=ry;exact PySem.EqMixed.eq_int_str (bA I q (by simp))
  |_=>exact absurd (show false=true from hs) Bool.false_ne_true
 |str i=>
  obtain⟨t,rfl⟩:=rx;cases y with
  |non=>cases ry;exact PySem.EqNone.eq_str_none (bA I q (by simp))
  |bl j=>cases ry;exact PySem.EqMixed.eq_str_bool (bA I q (by simp))
  |int j=>obtain⟨t',rfl⟩:=ry;exact PySem.EqMixed.eq_str_int (bA I q (by simp))
  |str j=>obtain⟨t',rfl⟩:=ry;exact eq_str (bA I q DC)
  |_=>exact absurd (show false=true from hs) Bool.false_ne_true
 |byt i=>
  obtain⟨t,rfl⟩:=rx;cases y with
  |byt j=>obtain⟨t',rfl⟩:=ry;exact PySem.W.eq_bytes (bA I q DE)
  |_=>exact absurd (show false=true from hs) Bool.false_ne_true
 |_=>cases y<;>exact absurd (show false=true from hs) Bool.false_ne_true
theorem jv:OpR X (compareOp .NotEq) rNe:=by
 intro pins s Y H x y v u Q I rx ry h;obtain⟨hs,q⟩:=h;cases x with
 |non=>
  cases rx;cases y with
  |non=>cases ry;exact PySem.EqNone.ne_none_none (bA I q (by simp))
  |bl j=>cases ry;exact PySem.EqNone.ne_none_bool (bA I q (by simp))
  |int j=>obtain⟨t',rfl⟩:=ry;exact PySem.EqNone.ne_none_int (bA I q (by simp))
  |str j=>obtain⟨t',rfl⟩:=ry;exact PySem.EqNone.ne_none_str (bA I q (by simp))
  |_=>exact absurd (show false=true from hs) Bool.false_ne_true
 |bl i=>
  cases rx;cases y with
  |non=>cases ry;exact PySem.EqNone.ne_bool_none (bA I q (by simp))
  |bl j=>cases ry;exact ne_bool (bA I q (congrArg not Jq))
  |str j=>obtain⟨t',rfl⟩:=ry;exact PySem.EqMixed.ne_bool_str (bA I q (by simp))
  |_=>exact absurd (show false=true from hs) Bool.false_ne_true
 |int i=>
  obtain⟨t,rfl⟩:=rx;cases y with
  |non=>cases ry;exact PySem.EqNone.ne_int_none (bA I q (by simp))
  |int j=>obtain⟨t',rfl⟩:=ry;exact ne_int (bA I q (congrArg not DD))
  |str j=>obtain⟨t',rfl⟩:=ry;exact PySem.EqMixed.ne_int_str (bA I q (by simp))
  |_=>exact absurd (show false=true from hs) Bool.false_ne_true
 |str i=>
  obtain⟨t,rfl⟩:=rx;cases y with
  |non=>cases ry;exact PySem.EqNone.ne_str_none (bA I q (by simp))
  |bl j=>cases ry;exact PySem.EqMixed.ne_str_bool (bA I q (by simp))
  |int j=>obtain⟨t',rfl⟩:=ry;exact PySem.EqMixed.ne_str_int (bA I q (by simp))
  |str j=>obtain⟨t',rfl⟩:=ry;exact ne_str (bA I q (congrArg not DC))
  |_=>exact absurd (show false=true from hs) Bool.false_ne_true
 |byt i=>
  obtain⟨t,rfl⟩:=rx;cases y with
  |byt j=>obtain⟨t',rfl⟩:=ry;exact PySem.W.ne_bytes (bA I q (congrArg not DE))
  |_=>exact absurd (show false=true from hs) Bool.false_ne_true
 |_=>cases y<;>exact absurd (show false=true from hs) Bool.false_ne_true
theorem uh:OpR X (compareOp .Lt) (rI0 fun i j=>.bl (decide (i<j))):=RZ fun _ _ _ _ _ _ _ q=>lt_int q
theorem qR:OpR X (compareOp .LtE) (rI0 fun i j=>.bl (decide (i<=j))):=RZ fun _ _ _ _ _ _ _ q=>le_int q
theorem jX:OpR X (compareOp .Gt) (rI0 fun i j=>.bl (decide (j<i))):=RZ fun _ _ _ _ _ _ _ q=>gt_int q
theorem Ib(b:Expr){op:CmpOp}(h:op≠.In:=by decide)(h2:op≠.NotIn:=by decide):behindInMarks op b=false:=by
 have e1:(op==CmpOp.In)=false:=by cases op<;>first|rfl|exact absurd rfl h
 have e2:(op==CmpOp.NotIn)=false:=by cases op<;>first|rfl|exact absurd rfl h2
 cases b<;>simp[behindInMarks,e1,e2]
theorem kN{op:CmpOp}{r:R2}(ho:OpR X (compareOp op) r)(ha:PE X a ta)(hb:PE X b tb)(hm:behindInMarks op b=false:=by first|exact Ib _|with_unfolding_all rfl):PE X (.Compare a [op] [b] pos) (tOp r ta tb):=by
 intro pins s Y H Q I h;exact wpAny_Compare1 (UK ha hb I h fun v u s2 x y H2 I2 rx ry q=>ho pins s2 Y H2 x y v u Q I2 rx ry q) hm
def CN(t:TE):TT:=fun Y H Q=>t Y H (RN Q)
theorem aF{op:CmpOp}{r:R2}(ho:OpR X (compareOp op) r)(ha:PE X a ta)(hb:PE X b tb)(hm:behindInMarks op b=false:=by first|exact Ib _|with_unfolding_all rfl):PT X (.Compare a [op] [b] pos) (CN (tOp r ta tb)):=by
 intro pins s Y H Q I h;refine wpAny_isTrue_Compare1 (thn (ha pins s Y H _ I h) fun v s1 ⟨x,H1,I1,r1,q1⟩=>thn (hb pins s1 Y H1 _ I1 q1) fun u s2 ⟨y,H2,I2,r2,q2⟩=>
  thn (ho pins s2 Y H2 x y v u _ I2 r1 r2 q2) fun c s3 ⟨z,H3,I3,r3,k,e,q3⟩=>?_) hm
 subst e;cases r3;exact wpAny_truthy_bool ⟨H3,I3,q3⟩
def QY(r r':R2)(ta tb tc:TE):TE:=fun Y H Q=>ta Y H fun x H1=>tb Y H1 fun y H2=>r x y H2 fun z H3=>∃k,z=.bl k/\
 (if k=true then tc Y H3 fun w' H4=>r' y w' H4 Q else Q (.bl false) H3)
theorem qG{op op':CmpOp}{r r':R2}(ho:OpR X (compareOp op) r)(ho':OpR X (compareOp op') r')(ha:PE X a ta)(hb:PE X b tb)(hc:PE X c tc)
  (hm:lastMarks [op,op'] [b,c]=false:=by with_unfolding_all rfl):PT X (.Compare a [op,op'] [b,c] pos) (CN (QY r r' ta tb tc)):=by
 intro pins s Y H Q I h;refine isTrue_chain (thn (ha pins s Y H _ I h) fun v s1 ⟨x,H1,I1,r1,q1⟩=>test_link (thn (hb pins s1 Y H1 _ I1 q1) fun u s2 ⟨y,H2,I2,r2,q2⟩=>
  thn (ho pins s2 Y H2 x y v u _ I2 r1 r2 q2) fun d s3 ⟨z,H3,I3,r3,k,e,q3⟩=>?_)) hm
 subst e;cases r3;refine wpAny_truthy_bool ?_;cases k with
 |false=>
  obtain⟨k',e',q'⟩:=q3;cases e';exact ite_ff ⟨H3,I3,q'⟩
 |true=>
  refine ite_tt (test_last (thn (hc pins s3 Y H3 _ I3 q3) fun w' s4 ⟨z',H4,I4,r4,q4⟩=>thn (ho' pins s4 Y H4 y z' u w' _ I4 r2 r4 q4) fun d' s5 hZ=>?_));obtain⟨z2,H5,I5,r5,k2,e2,q5⟩:=hZ;subst e2;cases r5;exact wpAny_truthy_bool ⟨H5,I5,q5⟩
theorem om:(sizeLine:Nat)<2^63:=by rw[sizeLine_eq];decide
theorem qS:OpR X (binaryOp .Add) (fun x y H Q=>∃i j,x=.str i/\y=.str j/\i.length+j.length<=sizeLine/\Q (.str (i++j)) H):=by
 intro pins s Y H x y v u Q I rx ry h;obtain⟨i,j,rfl,rfl,hz,q⟩:=h;obtain⟨t,rfl⟩:=rx;obtain⟨t',rfl⟩:=ry;exact add_str (fun t' tk=>⟨.str (i++j),H,I.tok _,⟨_,rfl⟩,q⟩) hz
theorem vals1{x:V}{us:List Value}(r:Vals [x] us):∃u,us=[u]/\RelV x u:=by
 cases r with
 |cons r1 r2=>cases r2;exact⟨_,rfl,r1⟩
theorem vals2{x y:V}{us:List Value}(r:Vals [x,y] us):∃u w',us=[u,w']/\RelV x u/\RelV y w':=by
 cases r with
 |cons r1 r2=>
  cases r2 with
  |cons r3 r4=>cases r4;exact⟨_,_,rfl,r1,r3⟩
theorem kA:iQ X (.builtin "abs") (fun xs H Q=>∃i,xs=[.int i]/\Q (.int (if i<0 then -i else i)) H):=by
 intro pins s Y H xs us Q I r h;obtain⟨i,rfl,q⟩:=h;obtain⟨u,rfl,t,rfl⟩:=vals1 r;exact call_abs_int fun u tk=>⟨.int (if i<0 then -i else i),H,I.tok _,⟨_,rfl⟩,q⟩
theorem oG(hc:X.calm=true):iQ X (.builtin "max") (fun xs H Q=>∃i j,xs=[.int i,.int j]/\Q (.int (if j>i then j else i)) H):=by
 intro pins s Y H xs us Q I r h;obtain⟨i,j,rfl,q⟩:=h;obtain⟨u,w',rfl,⟨t,rfl⟩,⟨t',rfl⟩⟩:=vals2 r;refine max_two_ints (I.ok.hd hc) fun h' tk k=>⟨_,H,I.kept k,?_,q⟩
 by_cases hj:j>i
 .rw[if_pos hj,if_pos hj];exact⟨_,rfl⟩
 .rw[if_neg hj,if_neg hj];exact⟨_,rfl⟩
theorem oF(hc:X.calm=true):iQ X (.builtin "min") (fun xs H Q=>∃i j,xs=[.int i,.int j]/\Q (.int (if j<i then j else i)) H):=by
 intro pins s Y H xs us Q I r h;obtain⟨i,j,rfl,q⟩:=h;obtain⟨u,w',rfl,⟨t,rfl⟩,⟨t',rfl⟩⟩:=vals2 r;refine min_two_ints (I.ok.hd hc) fun h' tk k=>⟨_,H,I.kept k,?_,q⟩
 by_cases hj:j<i
 .rw[if_pos hj,if_pos hj];exact⟨_,rfl⟩
 .rw[if_neg hj,if_neg hj];exact⟨_,rfl⟩
end
structure Cu(h:Heap)(x dx C:Addr)(mA:Str->Option Value):Prop where
 obj:h.get? x=some (instObj C dx)
 ns:h.Ns1 dx mA
 ne:dx≠x
theorem ES{h:Heap}{dx:Addr}{mA:Str->Option Value}(n:h.Ns1 dx mA):∃od,h.get? dx=some od/\∀name,lookIn name od=some (mA name):=by
 obtain⟨o,es,ep,ho,hd,hk,_,hm⟩:=n;refine⟨o,ho,fun name=>?_⟩;have e:=hm name;unfold nsFind findBy at e;rw[<-Array.find?_toList]at e;unfold lookIn;rw[hd];dsimp only;split
 .rename_i y q;rw[q]at e;exact congrArg some e
 .rename_i q;rw[q]at e;have a:es.toList.any (·.refKey)=false:=by
   rw[any_eq_false];intro y hy;obtain⟨z,t,rN⟩:=hk y (Array.mem_toList_iff.mp hy);simp[DictEntry.refKey,rN]
  have a':¬es.toList.any (·.refKey)=true:=by rw[a];exact Bool.false_ne_true
  rw[if_neg a'];exact congrArg some e
theorem Cu.look{h:Heap}{x dx C:Addr}{mA:Str->Option Value}(I:Cu h x dx C mA):∃od,PySem.W.InstAt h x (instObj C dx) C (some od)/\∀name,lookIn name od=some (mA name):=
 let ⟨od,ho,hl⟩:=ES I.ns
 ⟨od,⟨I.obj,rfl,rfl,ho⟩,hl⟩
section
variable{prog:Program}{w:World}{A:Around}{E:Value->Shared->Prop}{s:Shared}{K:Frag}{x dx C f:Addr}{mA:Str->Option Value}{name:Str}{v:Value}
theorem get_map{expr:Bool}{Q:Value->Shared->Prop}(X:K.In s.heap)(I:Cu s.heap x dx C mA)(hg:plainGet K C name=true)(hh:hasDictIn K C=true)
  (ha:findIn K (.ref C) name=some none) (hv:mA name=some v) (hv':handedIn v=true) (h:Q v {s with toks:=s.toks+1}):
  wpAny (model prog w) A (getAttr (.ref x) name expr) Q E s:=by
 obtain⟨od,J,hl⟩:=I.look;exact PySem.W.get_value X J (plainGet_of hg).1 (PySem.W.findObj_own hh ha rfl (by rw[hl,hv])) hv' h
theorem Je{pl:Sem Bool}{Q:Value×List Value->Shared->Prop}(X:K.In s.heap)(I:Cu s.heap x dx C mA)(hg:plainGet K C name=true)
  (hf:findIn K (.ref C) name=some (some (.ref f))) (ht:isFn K (.ref f)=true) (hv:mA name=none) (h:Q (.ref f,[.ref x]) s):
  wpAny (model prog w) A (getMethod (.ref x) name pl) Q E s:=by
 obtain⟨od,J,hl⟩:=I.look;exact PySem.W.method_fn X J (plainGet_of hg).1 (plainGet_of hg).2 hf (beq_iff_eq.mp ht) (by show(lookIn name od).map (·.isSome)=some false;rw[hl,hv];rfl) h
theorem LX{ns:List Str}{Q:Unit->Shared->Prop}(X:K.In s.heap)(I:Cu s.heap x dx C mA)
  (hs:findIn K (.ref C) "__setattr__"=some (some (.builtin "object.__setattr__"))) (hp:plainOver K C=true) (ht:takerIn K C name=some none) (hh:hasDictIn K C=true)
  (hw:PySem.Within mA ns) (hsz:ns.length<=sizeLine)
  (h:∀h',Cu h' x dx C (fun y=>if y=name then some v else mA y)->Heap.SameBut dx s.heap h'->Q () {s with heap:=h',toks:=s.toks+2}):
  wpAny (model prog w) A (setAttr (.ref x) name v) Q E s:=by
 obtain⟨od,J,hl⟩:=I.look;refine PySem.W.set_plain X J hs (PySem.W.osa_open (s:={s with toks:=s.toks+1}) (r:=none) X J hp ht fun b=>?_);obtain⟨cd,hc,hd'⟩:=PySem.W.any_some hh;have hx:s.heap.get? x=some ⟨.ref C,some dx,.plain,#[]⟩:=I.obj;refine wpAny_bind (wpAny_pure (wpAny_bind (wpAny_bind (wpAny_loadPart hx (wpAny_bind (Looks.here (s:={s with toks:=s.toks+1}) (PySem.W.looks_clsIn X hc) ?_))))));rw[hd'];refine wpAny_pure (a:=some dx) (wpAny_bind (wpAny_pure (wpAny_bind ?_)));refine wpAny_nsSet1 (s:={s with toks:=s.toks+1}) I.ns fun h' hn2 hs2=>?_
 obtain⟨oD,esD,epD,hoD,hdD,hcD⟩:=hn2.count (PySem.Within.cons name v hw);refine wpAny_bind (wpAny_lookBehind hoD (by rw[hdD];exact pastItsLine_dict (le_trans hcD (by rw[length_cons];omega))) ?_);exact wpAny_pure (h _ ⟨(hs2.2 _ (Ne.symm I.ne)).trans I.obj,hn2,I.ne⟩ hs2)
theorem Iy{R:Result->Shared->Prop}{vs:List Value}{kw:List (Str×Value)}(X:K.In s.heap)(hm:makesIn K C=true)
  (hi:findIn K (.ref C) "__init__"=some (some (.ref f))) (hf:typeIn K (.ref f)=some (.type "function"))
  (h:codeAny (model prog w) (A.under (.builtin "type.__call__" ⟨.ref C::vs,kw⟩)) (.call (.ref f) ⟨.ref (s.heap.objs.size+1)::vs,kw⟩) (PySem.W.InitBack (s.heap.objs.size+1) R)
   {s with heap:=(s.heap.push emptyDict).push (instObj C s.heap.objs.size)}):
  codeAny (model prog w) A (.call (.ref C) ⟨vs,kw⟩) R s:=by
 obtain⟨hh,g,d,t,os⟩:=s;exact PySem.W.make_core (PySem.W.makes_of X hm) (PySem.W.looks_findIn X hi) (fun self=>PySem.W.bind_fn X self hf) (.inl rfl) h
end
def bw(f:Str)(v:V):List (Str×V)->List (Str×V)
 |[]=>[(f,v)]
 |(g,x)::r=>if g=f then(g,v)::r else(g,x)::bw f v r
theorem oS(f g:Str)(v:V):∀fs:List (Str×V),(bw f v fs).lookup g=if g=f then some v else fs.lookup g
 |[]=>by
  show List.lookup g [(f,v)]=_;by_cases h:g=f
  .have hb:(g==f)=true:=beq_iff_eq.mpr h;simp only[List.lookup,hb,if_pos h]
  .have hb:(g==f)=false:=beq_eq_false_iff_ne.mpr h;simp only[List.lookup,hb,if_neg h]
 |(k,x)::r=>by
  have ih:=oS f g v r;rw[show bw f v ((k,x)::r)=(if k=f then(k,v)::r else(k,x)::bw f v r)from rfl];by_cases hk:k=f
  .rw[if_pos hk];by_cases h:g=k
   .have hb:(g==k)=true:=beq_iff_eq.mpr h;simp only[List.lookup,hb,if_pos (h.trans hk)]
   .have hb:(g==k)=false:=beq_eq_false_iff_ne.mpr h;simp only[List.lookup,hb,if_neg (fun e:g=f=>h (e.trans hk.symm))]
  .rw[if_neg hk];by_cases h:g=k
   .have hb:(g==k)=true:=beq_iff_eq.mpr h;simp only[List.lookup,hb,if_neg (fun e:g=f=>hk (h.symm.trans e))]
   .have hb:(g==k)=false:=beq_eq_false_iff_ne.mpr h;simp only[List.lookup,hb];exact ih
theorem oo(f:Str)(v:V):∀fs:List (Str×V),f∈(bw f v fs).map (·.1)/\∀g,g∈fs.map (·.1)->g∈(bw f v fs).map (·.1)
 |[]=>⟨by simp[bw],fun g h=>by simp at h⟩
 |(k,x)::r=>by
  obtain⟨i1,i2⟩:=oo f v r;rw[show bw f v ((k,x)::r)=(if k=f then(k,v)::r else(k,x)::bw f v r)from rfl];by_cases hk:k=f
  .rw[if_pos hk];subst hk;exact⟨by simp,fun g h=>by simpa using h⟩
  .rw[if_neg hk];refine⟨?_,fun g h=>?_⟩
   .rw[map_cons];exact mem_cons_of_mem _ i1
   .rw[map_cons]at h ⊢;rcases mem_cons.mp h with e|e
    .exact mem_cons.mpr (.inl e)
    .exact mem_cons_of_mem _ (i2 g e)
theorem oU(f:Str)(v:V):∀fs:List (Str×V),(bw f v fs).length<=fs.length+1
 |[]=>by simp[bw]
 |(k,x)::r=>by
  have ih:=oU f v r;rw[show bw f v ((k,x)::r)=(if k=f then(k,v)::r else(k,x)::bw f v r)from rfl];by_cases hk:k=f
  .rw[if_pos hk,length_cons,length_cons];omega
  .rw[if_neg hk,length_cons,length_cons];omega
theorem il.some_of{v:V}{o:Option Value}(r:il (some v) o):∃u,o=some u/\RelV v u:=by
 cases o with
 |none=>exact(show False from r).elim
 |some u=>exact⟨u,rfl,r⟩
theorem il.none_of{o:Option Value}(r:il none o):o=none:=by
 cases o with
 |none=>rfl
 |some u=>exact(show False from r).elim
theorem Fs{v:V}{u:Value}(r:RelV v u):handedIn u=true:=by
 cases v with
 |non=>cases(show u=Value.none from r);rfl
 |bl b=>cases(show u=Value.bool b from r);rfl
 |int i=>obtain⟨t,e⟩:=(show ∃t,u=Value.int i t from r);cases e;rfl
 |str x=>obtain⟨t,e⟩:=(show ∃t,u=Value.str x t from r);cases e;rfl
 |byt b=>obtain⟨t,e⟩:=(show ∃t,u=Value.bytes b t from r);cases e;rfl
 |flt b=>obtain⟨t,e⟩:=(show ∃t,u=Value.float b t from r);cases e;rfl
 |ref a=>cases(show u=Value.ref a from r);rfl
 |ty n=>cases(show u=Value.type n from r);rfl
section
variable{P:Program}{w:World}{H H':Hp}{h h':Heap}{a C dx:Addr}{fs fs':List (Str×V)}
theorem pO(hok:HOk P w H h)(e:H a=some (.ins C dx fs)):∃mA,Cu h a dx C mA/\(∀f,il (fs.lookup f) (mA f))/\PySem.Within mA (fs.map (·.1))/\fs.length<=1000/\H dx=some (.own a):=by
 obtain⟨d,z,ne,ob,mA,n,r,q⟩:=(show b9 P w H h a (.ins C dx fs)from hok a _ e);exact⟨mA,⟨ob,n,ne⟩,r,q,z,d⟩
end
structure Cls(K:Frag)(C:Addr):Prop where
 pg:plainGet K C Str.empty=true
 hd:hasDictIn K C=true
 po:plainOver K C=true
 sa:findIn K (.ref C) "__setattr__"=some (some (.builtin "object.__setattr__"))
theorem Cls.get{K:Frag}{C:Addr}(c:Cls K C)(f:Str):plainGet K C f=true:=c.pg
def aE(K:Frag)(C:Addr)(f:Str):Prop:=findIn K (.ref C) f=some none
theorem aE.UX{K:Frag}{C:Addr}{f:Str}(n:aE K C f):takerIn K C f=some none:=by
 unfold takerIn;rw[show findIn K (.ref C) f=some none from n];rfl
structure Meth(K:Frag)(C:Addr)(m:Str)(f:Addr):Prop where
 at_:findIn K (.ref C) m=some (some (.ref f))
 fn:isFn K (.ref f)=true
 kp:keepIn K (.ref f)=true
section
variable{X:Cx}{pins:List (Addr×Obj)}{Y:St}{H:Hp}{s:Shared}{a C dx:Addr}{fs:List (Str×V)}{f:Str}{v:V}{A:Around}{E:Value->Shared->Prop}
theorem rV{b:Bool}{Q:Value->Shared->Prop}(I:Inv X pins Y H s)(e:H a=some (.ins C dx fs))(c:Cls X.K C)(n:aE X.K C f)(l:fs.lookup f=some v)
  (h:∀u s',Inv X pins Y H s'->RelV v u->Q u s'):wpAny (model X.prog X.w) A (getAttr (.ref a) f b) Q E s:=by
 obtain⟨mA,O,r,_,_,_⟩:=pO I.hok e;obtain⟨u,hu,ru⟩:=il.some_of (v:=v) (o:=mA f) (by rw[<-l];exact r f);exact get_map I.kIn O (c.get f) c.hd n hu (Fs ru) (h u _ (I.tok _) ru)
theorem rT{m:Str}{g:Addr}{pl:Sem Bool}{Q:Value×List Value->Shared->Prop}(I:Inv X pins Y H s)(e:H a=some (.ins C dx fs))(c:Cls X.K C)(k:Meth X.K C m g)(l:fs.lookup m=none)
  (h:Q (.ref g,[.ref a]) s):wpAny (model X.prog X.w) A (getMethod (.ref a) m pl) Q E s:=by
 obtain⟨mA,O,r,_,_,_⟩:=pO I.hok e;have hn:mA m=none:=il.none_of (by rw[<-l];exact r m);exact Je I.kIn O (c.get m) k.at_ k.fn hn h
theorem qr{y:V}{u:Value}{Q:Unit->Shared->Prop}(I:Inv X pins Y H s)(e:H a=some (.ins C dx fs))(c:Cls X.K C)(n:aE X.K C f)(hl:fs.length<1000)(ry:RelV y u)
  (h:∀s',Inv X pins Y (upd H a (.ins C dx (bw f y fs))) s'->Q () s'):wpAny (model X.prog X.w) A (setAttr (.ref a) f u) Q E s:=by
 obtain⟨mA,O,r,wi,_,ho⟩:=pO I.hok e;have hz:(fs.map (·.1)).length<=sizeLine:=by rw[length_map,sizeLine_eq];omega
 refine LX I.kIn O c.sa c.po n.UX c.hd wi hz fun h' O' sb=>h _ ?_
 have hd:∃o,h'.get? dx=some o:=let ⟨o,_,_,e',_⟩:=O'.ns;⟨o,e'⟩;refine I.write (x:=a) (e:=dx) (by rw[e];exact True.intro) (.inr ho) (fun b q hb z=>(sb.2 b hb).trans z) hd ?_;refine⟨by rw[aq O.ne];exact ho,?_,O.ne,O'.obj,_,O'.ns,fun g=>?_,fun g hg=>?_⟩
 .have:=oU f y fs;omega
 .show il ((bw f y fs).lookup g) (if g=f then some u else mA g);rw[oS];by_cases q:g=f
  .rw[if_pos q,if_pos q];exact ry
  .rw[if_neg q,if_neg q];exact r g
 .by_cases q:g=f
  .rw[q];exact(oo f y fs).1
  .refine(oo f y fs).2 g (wi g fun z=>hg ?_);show(if g=f then some u else mA g)=none;rw[if_neg q];exact z
theorem Inv.made(I:Inv X pins Y H s):Inv X pins Y (upd (upd H s.heap.objs.size (.own (s.heap.objs.size+1))) (s.heap.objs.size+1) (.ins C s.heap.objs.size []))
  {s with heap:=(s.heap.push emptyDict).push (instObj C s.heap.objs.size)}:=by
 have e1:(s.heap.push emptyDict).get? s.heap.objs.size=some emptyDict:=Heap.get?_push_size s.heap rfl;have e2:((s.heap.push emptyDict).push (instObj C s.heap.objs.size)).get? (s.heap.objs.size+1)=some (instObj C s.heap.objs.size):=by
  have:=Heap.get?_push_size (s.heap.push emptyDict) (o:=instObj C s.heap.objs.size) rfl
  rwa [Heap.size_push]at this
 have e3:(s.heap.push emptyDict).Ns s.heap.objs.size (fun _=>none):=⟨emptyDict,#[],_,e1,rfl,(fun e he=>absurd he (by simp)),fun _=>rfl⟩;have I1:=I.laid (a:=s.heap.objs.size) (o:=.own (s.heap.objs.size+1)) (h':=s.heap.push emptyDict) (t':=s.toks) (fun b u q=>Heap.get?_push_of_some _ q) (le_refl _) ⟨_,e1⟩;refine I1.laid (a:=s.heap.objs.size+1) (o:=.ins C s.heap.objs.size []) (t':=s.toks) (fun b u q=>Heap.get?_push_of_some _ q) (le_of_eq (Heap.size_push _ _)) ?_;have ne:s.heap.objs.size≠s.heap.objs.size+1:=ne_of_lt (lt_succ_self _);refine⟨by rw[aq ne,ae],zero_le _,ne,e2,fun _=>none,(Heap.Ns1.of_empty e3).at fun o q=>Heap.get?_push_of_some _ q,fun _=>True.intro,fun y hy=>absurd rfl hy⟩
theorem Nh{prog:Program}{w:World}{env:Env}{e:Expr}{f:Str}{pos:Pos}{s:Shared}{Q:Value->Shared->Prop}(hb:attributeBase e f env (eval e env)=eval e env)
  (h:wpAny (model prog w) A (eval e env) (fun o s₁=>wpAny (model prog w) A (getAttr o f true) Q E s₁) E s):wpAny (model prog w) A (eval (.Attribute e f pos) env) Q E s:=
 Attribute_any_ h (by rw[arm_eval_Attribute,hb])
end
inductive Vh(K:Frag)(f:Str)(Q:VK)(x:V)(H:Hp):Prop where
 |mk (a C dx:Addr)(fs:List (Str×V))(v:V)(_:x=.ref a)(_:H a=some (.ins C dx fs))(c:Cls K C)(n:aE K C f)(l:fs.lookup f=some v)(q:Q v H):Vh K f Q x H
def LH(K:Frag)(ta:TE)(f:Str):TE:=fun Y H Q=>ta Y H (Vh K f Q)
inductive Pb(K:Frag)(f:Str)(y:V)(R:Hp->Prop)(x:V)(H:Hp):Prop where
 |mk (a C dx:Addr)(fs:List (Str×V))(_:x=.ref a)(_:H a=some (.ins C dx fs))(c:Cls K C)(n:aE K C f)(l:fs.length<1000)(q:R (upd H a (.ins C dx (bw f y fs)))):Pb K f y R x H
def WY(K:Frag)(ta tv:TE)(f:Str):TS:=fun D Y H=>tv Y H fun y H1=>ta Y H1 (Pb K f y (D.nx Y))
def WJ(X:Cx)(op:Operator)(rd:V->V->Hp->VK->Prop):Prop:=
 ∀(pins:List (Addr×Obj))(s:Shared)(Y:St)(H:Hp)(x y:V)(u v:Value)(Q:VK),Inv X pins Y H s->RelV x u->RelV y v->rd x y H Q->wpAny (model X.prog X.w) X.A (inplaceOp op u v) (EP X pins Y Q) X.xe s
def L0(K:Frag)(ta tv:TE)(rd:V->V->Hp->VK->Prop)(f:Str):TS:=fun D Y H=>ta Y H fun x H1=>∃a C dx fs v,x=.ref a/\H1 a=some (.ins C dx fs)/\Cls K C/\aE K C f/\fs.lookup f=some v/\
 tv Y H1 fun y H2=>rd v y H2 fun z H3=>∃dx' fs',H3 a=some (.ins C dx' fs')/\fs'.length<1000/\D.nx Y (upd H3 a (.ins C dx' (bw f z fs')))
section
variable{X:Cx}{o e value:Expr}{f:Str}{pos pos' D6:Pos}{ta tv:TE}
theorem ax(he:PE X e ta)(hb:attributeBase e f X.env (eval e X.env)=eval e X.env:=by rfl):PE X (.Attribute e f pos) (LH X.K ta f):=by
 intro pins s Y H Q I h;refine Nh hb (thn (he pins s Y H _ I h) fun u s1 hZ=>?_);obtain⟨x,H1,I1,rx,a,C,dx,fs,v,ex,ea,c,n,l,q⟩:=hZ;subst ex;obtain rfl:u=Value.ref a:=rx;exact rV I1 ea c n l fun u' s2 I2 ru=>⟨v,H1,I2,ru,q⟩
theorem aX(ha:PE X o ta)(hv:PE X value tv)(hs:swapsWith value (some (.Attribute o f pos')) pos.line X.env=pure false:=by rfl):PS X (.Assign [.Attribute o f pos'] value pos) (WY X.K ta tv f):=by
 intro pins s Y H D I h;refine plainObj_wpAny_Assign_Attribute (thn (hv pins s Y H _ I h) fun u s1 ⟨y,H1,I1,ry,q⟩=>thn (ha pins s1 Y H1 _ I1 q) fun ov s2 hZ=>?_) hs;obtain⟨x,H2,I2,rx,a,C,dx,fs,ex,ea,c,n,l,q2⟩:=hZ;subst ex;obtain rfl:ov=Value.ref a:=rx;exact qr I2 ea c n l ry fun s3 I3=>⟨Y,_,I3,q2⟩
theorem nX{op:Operator}{rd:V->V->Hp->VK->Prop}(ha:PE X o ta)(hv:PE X value tv)(hop:WJ X op rd):PS X (.AugAssign (.Attribute o f D6) op value pos) (L0 X.K ta tv rd f):=by
 intro pins s Y H D I h;refine wpAny_AugAssign_AttributeAny (thn (ha pins s Y H _ I h) fun ov s1 hZ=>?_);obtain⟨x,H1,I1,rx,a,C,dx,fs,v,ex,ea,c,n,l,q⟩:=hZ;subst ex;obtain rfl:ov=Value.ref a:=rx;refine rV I1 ea c n l fun u s2 I2 ru=>thn (hv pins s2 Y H1 _ I2 q) fun w3 s3 ⟨y,H2,I3,ry,q3⟩=>thn (hop pins s3 Y H2 v y u w3 _ I3 ru ry q3) fun w4 s4 hZ=>?_
 obtain⟨z,H3,I4,rz,dx',fs',ea',l',q4⟩:=hZ;exact qr I4 ea' c n l' rz fun s5 I5=>⟨Y,_,I5,q4⟩
def Xb:V->V->Hp->VK->Prop:=fun x y H Q=>∃i j,x=.int i/\y=.int j/\Q (.int (i+j)) H
theorem BF:WJ X .Add Xb:=by
 rintro pins s Y H x y u v Q I rx ry ⟨i,j,rfl,rfl,q⟩;obtain⟨t,rfl⟩:=(show ∃t,u=Value.int i t from rx);obtain⟨t',rfl⟩:=(show ∃t',v=Value.int j t' from ry);exact PyProof.Rows.iadd_int ⟨.int (i+j),H,I.tok _,⟨_,rfl⟩,q⟩
end
section
variable{X:Cx}{pins:List (Addr×Obj)}{Y:St}{H:Hp}{s:Shared}{A:Around}{E:Value->Shared->Prop}{Q:Value->Shared->Prop}{c:Value}{b:Bool}
inductive pF(K:Frag)(H:Hp):V->Value->Prop where
 |non:pF K H .non (.type "NoneType")
 |bl (x:Bool):pF K H (.bl x) (.type "bool")
 |int (i:Int):pF K H (.int i) (.type "int")
 |str (x:Str):pF K H (.str x) (.type "str")
 |flt (x:UInt64):pF K H (.flt x) (.type "float")
 |lst {a:Addr} {xs:List V} (e:H a=some (.lst xs)):pF K H (.ref a) (.type "list")
 |frz {a:Addr} {o:Obj} {xs:List V} (e:H a=some (.frz o (.lst xs))):pF K H (.ref a) (.type "list")
 |tup {a:Addr} {xs:List V} (e:H a=some (.tup xs)):pF K H (.ref a) (.type "tuple")
 |dK {a:Addr} {kvs:List (Key×V)} (e:H a=some (.dK kvs)):pF K H (.ref a) (.type "dict")
 |dT {a:Addr} {kvs:List (List Key×V)} (e:H a=some (.dT kvs)):pF K H (.ref a) (.type "dict")
 |ins {a C dx:Addr} {fs:List (Str×V)} (e:H a=some (.ins C dx fs)) (cl:Cls K C) (ha:findIn K (.ref C) "__class__"=some (some (.builtin "object.__class__")))
   (hn:specialIn K (.builtin "object.__class__") "__get__"=some (some (.builtin "getset_descriptor.__get__"))) (htk:takesIn K (.builtin "object.__class__")=some true)
   (hm:mroIn K C (.type "object")=some true):pF K H (.ref a) (.ref C)
theorem E8{x:V}{u t:Value}(I:Inv X pins Y H s)(rx:RelV x u)(ty:pF X.K H x t)(e:kitOne X.K t c=some b)(h:∀tk,Q (.bool b) {s with toks:=tk}):
  wpAny (model X.prog X.w) A (call (.builtin "isinstance") [u,c]) Q E s:=by
 cases ty with
 |non=>cases(show u=Value.none from rx);exact kia_one PySem.W.kitx_none I.kIn True.intro e (fun z=>nomatch z) h
 |bl y=>cases(show u=Value.bool y from rx);exact kia_one PySem.W.kitx_bool I.kIn True.intro e (fun z=>nomatch z) h
 |int i=>obtain⟨t,q⟩:=(show ∃t,u=Value.int i t from rx);cases q;exact kia_one PySem.W.kitx_int I.kIn True.intro e (fun z=>nomatch z) h
 |str y=>obtain⟨t,q⟩:=(show ∃t,u=Value.str y t from rx);cases q;exact kia_one PySem.W.kitx_str I.kIn True.intro e (fun z=>nomatch z) h
 |flt y=>obtain⟨t,q⟩:=(show ∃t,u=Value.float y t from rx);cases q;exact kia_one PySem.W.kitx_float I.kIn True.intro e (fun z=>nomatch z) h
 |@lst a xs ea=>
  cases(show u=Value.ref a from rx);obtain⟨_,_,n,_,h1⟩:=(show b9 X.prog X.w H s.heap a (.lst xs)from I.hok a _ ea);exact kia_one kitx_list I.kIn ⟨_,h1,rfl⟩ e (fun z=>nomatch z) h
 |@frz a ob xs ea=>
  cases(show u=Value.ref a from rx);obtain⟨_,_,_,n,_,h1⟩:=(show b9 X.prog X.w H s.heap a (.frz ob (.lst xs))from I.hok a _ ea);exact kia_one kitx_list I.kIn ⟨_,h1,rfl⟩ e (fun z=>nomatch z) h
 |@tup a xs ea=>
  cases(show u=Value.ref a from rx);obtain⟨_,_,_,p⟩:=(show b9 X.prog X.w H s.heap a (.tup xs)from I.hok a _ ea);obtain⟨o,h1,h2,_⟩:=p;exact kia_one PySem.W.kitx_tuple I.kIn ⟨o,h1,h2⟩ e (fun z=>nomatch z) h
 |@dK a kvs ea=>
  cases(show u=Value.ref a from rx);obtain⟨_,_,vs,_,p⟩:=(show b9 X.prog X.w H s.heap a (.dK kvs)from I.hok a _ ea);obtain⟨o,es,ep,h1,h2,_⟩:=p;exact kia_one kitx_dict I.kIn ⟨o,h1,h2.1⟩ e (fun z=>nomatch z) h
 |@dT a kvs ea=>
  cases(show u=Value.ref a from rx);obtain⟨_,_,xs,_,o,es,ep,h1,h2,_⟩:=(show b9 X.prog X.w H s.heap a (.dT kvs)from I.hok a _ ea);exact kia_one kitx_dict I.kIn ⟨o,h1,h2.1⟩ e (fun z=>nomatch z) h
 |@ins a C dx fs ea cl ha hn htk hm=>
  cases(show u=Value.ref a from rx);obtain⟨mA,O,_⟩:=pO I.hok ea;obtain⟨od,J,_⟩:=O.look;exact kia_one (PySem.W.kitx_own (cl.get _) cl.hd ha hn htk hm) I.kIn J e (fun z=>nomatch z) h
end
structure ed(k:Nat)(A:Around):Prop where
 hd:A.handled=none
 dp:A.depth+3*k+5<recursionLimit
 un:A.units+16*k+200<cLine
theorem ed.mono{j k:Nat}{A:Around}(r:ed k A)(h:j<=k):ed j A:=⟨r.hd,by have:=r.dp;omega,by have:=r.un;omega⟩
theorem ed.deeper{k:Nat}{A:Around}(r:ed (k+1) A)(env:Env):ed k (A.deeper env):=
 ⟨r.hd,by have:=r.dp;show A.depth+1+3*k+5<_;omega,by have:=r.un;show A.units+3+16*k+200<_;omega⟩
theorem BA{A:Around}{C:Addr}{us:List Value}{kw:List (Str×Value)}:(A.under (.builtin "type.__call__" ⟨.ref C::us,kw⟩)).depth=A.depth+1:=by
 first|rfl|simp[Around.under,Code.weight,Code.isCreation,Code.isGuard,Code.isCaller,Code.frames,Code.isFrame,guardIds]
theorem Bz{A:Around}{C:Addr}{us:List Value}{kw:List (Str×Value)}:(A.under (.builtin "type.__call__" ⟨.ref C::us,kw⟩)).units=A.units+1:=by
 first|rfl|simp[Around.under,Code.cUnits,Code.frames,Code.isFrame]
theorem ed.make{k:Nat}{A:Around}(r:ed (k+1) A)(C:Addr)(us:List Value)(kw:List (Str×Value)):ed k (A.under (.builtin "type.__call__" ⟨.ref C::us,kw⟩)):=
 ⟨r.hd,by have:=r.dp;rw[BA];omega,by have:=r.un;rw[Bz];omega⟩
theorem ed.depth{k:Nat}{A:Around}(r:ed k A):A.depth<recursionLimit:=by have:=r.dp;omega
theorem ed.units{k:Nat}{A:Around}(r:ed k A):A.units+64<cLine:=by have:=r.un;omega
def fE:TA:=fun _ H Q=>Q [] H
def cb(ta:TE)(tr:TA):TA:=fun Y H Q=>ta Y H fun x H1=>tr Y H1 fun xs H2=>Q (x::xs) H2
section
variable{X:Cx}{e:Expr}{es:List Expr}{te:TE}{t:TA}{pos:Pos}
theorem lS:PA X [] fE:=fun _ _ _ _ H Q I h=>Calls.spliced_nil ⟨[],H,I,.nil,h⟩
theorem ai(ha:PE X e te)(hr:PA X es t)(hs:starEach (e::es) X.env=(false,eval e X.env)::starEach es X.env:=by rfl):PA X (e::es) (cb te t):=by
 intro pos pins s Y H Q I h;rw[hs];show wpAny _ _ (spliced ((false,eval e X.env)::backTo pos (starEach es X.env))) _ _ s;refine Calls.spliced_cons (thn (ha pins s Y H _ I h) fun u s1 hZ=>?_);obtain⟨x,H1,I1,r1,q1⟩:=hZ;exact thn (hr pos pins s1 Y H1 _ I1 q1) fun us s2 ⟨xs,H2,I2,r2,q2⟩=>⟨x::xs,H2,I2,.cons r1 r2,q2⟩
def QR(t:TA):TE:=fun Y H Q=>t Y H fun xs H1=>xs.length<=sizeLine/\∀p,H1 p=none->Q (.ref p) (upd H1 p (.tup xs))
def WO(t:TA):TE:=fun Y H Q=>t Y H fun xs H1=>xs.length<=sizeLine/\∀p,H1 p=none->Q (.ref p) (upd H1 p (.lst xs))
theorem bH{x1}(h:PA X es t):PE X (.Tuple es x1 pos) (QR t):=by
 intro pins s Y H Q I hq;refine wpAny_Tuple_spliced (thn (h pos pins s Y H _ I hq) fun us s1 ⟨xs,H1,I1,r,z,q⟩=>⟨by rw[<-r.length];exact z,?_⟩);have hf:H1 s1.heap.objs.size=none:=I1.hok.fresh (le_refl _);refine⟨.ref s1.heap.objs.size,upd H1 s1.heap.objs.size (.tup xs),I1.laid (t':=s1.toks) (fun b u e=>Heap.get?_push_of_some _ e) (le_refl _) ?_,rfl,q _ hf⟩;exact⟨z,us,r,⟨_,Heap.get?_push_size _ rfl,rfl,_,rfl⟩⟩
theorem cW(h:PA X es t):PE X (.List es pos) (WO t):=by
 intro pins s Y H Q I hq;refine wpAny_List_spliced (thn (h pos pins s Y H _ I hq) fun us s1 ⟨xs,H1,I1,r,z,q⟩=>⟨by rw[<-r.length];exact z,?_⟩);have hf:H1 s1.heap.objs.size=none:=I1.hok.fresh (le_refl _);refine⟨.ref s1.heap.objs.size,upd H1 s1.heap.objs.size (.lst xs),I1.laid (t':=s1.toks) (fun b u e=>Heap.get?_push_of_some _ e) (le_refl _) ?_,rfl,q _ hf⟩;exact⟨z,us,0,r,Heap.get?_push_size _ rfl⟩
end
abbrev Sp:=List V->Hp->VK->XK->Prop
abbrev CXT:=List Env->Hp->Shared->XK->Value->Shared->Prop
structure Ap(P:Program)(w:World)(K:Frag)(mg:Str->Option Value)(base:Heap)(A:Around)(outer:List Env)(s:Shared)(H:Hp):Prop where
 frames:A.frames=some outer
 mod:Mod K mg base
 bs:∀b o,base.get? b=some o->s.heap.get? b=some o/\H b=none
 bsz:base.objs.size<=s.heap.objs.size
 jE:s.heap.FunFrames base outer
 frf:∀b∈frs outer,H b=none
 hok:HOk P w H s.heap
 bare:AllBare s.gens
inductive CE(outer:List Env)(P:Program)(w:World)(H:Hp)(s:Shared)(Q:VK)(u:Value)(s':Shared):Prop where
 |mk (v:V)(H':Hp)(o:s'.os=s.os)(b:AllBare s'.gens)(n:Un (frs outer) [] H H' s.heap s'.heap)(k:HOk P w H' s'.heap)(r:RelV v u)(q:Q v H'):CE outer P w H s Q u s'
def CR(CX:CXT)(outer:List Env)(P:Program)(w:World)(H:Hp)(s:Shared)(Q:VK)(E:XK)(r:Result)(s':Shared):Prop:=
 match r with
 |.ok (.ret u)=>CE outer P w H s Q u s'
 |.ok _=>False
 |.error e=>CX outer H s E e s'
structure eF(P:Program)(w:World)(K:Frag)(mg:Str->Option Value)(base:Heap)(CX:CXT)(k:Nat)(f:Addr)(fd:FuncData)(ps:List Str)(sp:Sp):Prop where
 len:∀vs H Q E,sp vs H Q E->vs.length=ps.length
 run:∀(A:Around)(outer:List Env)(s:Shared)(H:Hp)(args:Args)(us:List Value)(vs:List V)(Q:VK)(E:XK),ed k A->Ap P w K mg base A outer s H->BindsTo s fd args (ps.zip us)->Vals vs us->sp vs H Q E->
  codeAny (model P w) A (.call (.ref f) args) (CR CX outer P w H s Q E) s
theorem eF.imp{P:Program}{w:World}{K:Frag}{mg:Str->Option Value}{base:Heap}{CX:CXT}{k:Nat}{f:Addr}{fd:FuncData}{ps:List Str}{sp sp':Sp}(F:eF P w K mg base CX k f fd ps sp)
  (h:∀vs H Q E,sp' vs H Q E->sp vs H Q E):eF P w K mg base CX k f fd ps sp':=
 ⟨fun vs H Q E q=>F.len vs H Q E (h _ _ _ _ q),fun A outer s H args us vs Q E hr he hb hv hs=>F.run A outer s H args us vs Q E hr he hb hv (h _ _ _ _ hs)⟩
theorem Ap.make{P:Program}{w:World}{K:Frag}{mg:Str->Option Value}{base:Heap}{A:Around}{outer:List Env}{s:Shared}{H:Hp}(e:Ap P w K mg base A outer s H)(C:Addr)(us:List Value)(kw:List (Str×Value)):
  Ap P w K mg base (A.under (.builtin "type.__call__" ⟨.ref C::us,kw⟩)) outer s H:=⟨by first|exact e.frames|(simpa [Around.under,Code.envs,Code.isFrame,pushEnvs] using e.frames),e.mod,e.bs,e.bsz,e.jE,e.frf,e.hok,e.bare⟩
section
variable{X:Cx}{pins:List (Addr×Obj)}{Y:St}{H:Hp}{s s':Shared}
theorem Inv.Wv(I:Inv X pins Y H s):Ap X.prog X.w X.K X.mg X.base X.A X.stack s H:=
 ⟨I.ok.frames,I.ok.mod,I.bs,le_trans I.ok.bsz I.sz,I.stack,I.pK,I.hok,I.bare⟩
theorem Inv.after{Q:VK}{u:Value}(I:Inv X pins Y H s)(h:CE X.stack X.prog X.w H s Q u s'):EP X pins Y Q u s':=by
 obtain⟨v,H',os,bare,un,hok,r,q⟩:=h;obtain⟨hh,g,d,t,os'⟩:=s';obtain rfl:os'=s.os:=os;exact⟨v,H',I.call (h':=hh) (g':=g) (d':=d) (t':=t) (ch:=[]) un hok bare (fun b z=>absurd z (by simp)),r,q⟩
end
def xy(sp:Sp)(dvs:List V)(E:XK)(t:TA):TE:=fun Y H Q=>t Y H fun vs H1=>sp (vs++dvs) H1 Q E
inductive Pc(C:Addr)(m:Str)(R:V->Hp->Prop)(x:V)(H:Hp):Prop where
 |mk (a dx:Addr)(fs:List (Str×V))(_:x=.ref a)(_:H a=some (.ins C dx fs))(l:fs.lookup m=none)(q:R x H):Pc C m R x H
def js(C:Addr)(m:Str)(sp:Sp)(dvs:List V)(E:XK)(ta:TE)(t:TA):TE:=fun Y H Q=>ta Y H (Pc C m fun x H1=>t Y H1 fun vs H2=>sp (x::(vs++dvs)) H2 Q E)
def oM(C:Addr)(sp:Sp)(dvs:List V)(E:XK)(t:TA):TE:=fun Y H Q=>t Y H fun vs H1=>∀x dx,H1 x=none->H1 dx=none->dx≠x->
 sp (.ref x::(vs++dvs)) (upd (upd H1 dx (.own x)) x (.ins C dx [])) (fun v H2=>v=.non/\Q (.ref x) H2) E
def Binds(K:Frag)(fd:FuncData)(ps:List Str)(ds:List Value):Prop:=
 ∀(s:Shared)(us:List Value),K.In s.heap->(us++ds).length=ps.length->BindsTo s fd ⟨us,[]⟩ (ps.zip (us++ds))
theorem Binds.all{K:Frag}{fd:FuncData}{ps:List Str}(h:∀us:List Value,us.length=ps.length->bindArgs fd ⟨us,[]⟩=pure (ps.zip us)):Binds K fd ps []:=fun s us _ hl=>by
 rw[append_nil]at hl ⊢;exact .of_eq (h us hl)
def Passes(CX:CXT)(X:Cx)(E:XK):Prop:=∀(pins:List (Addr×Obj))(Y:St)(H:Hp)(s:Shared)(e:Value)(s':Shared),Inv X pins Y H s->CX X.stack H s E e s'->X.xe e s'
section
variable{X:Cx}{CX:CXT}{k:Nat}{f C:Addr}{fd:FuncData}{ps:List Str}{sp:Sp}{dvs:List V}{ds:List Value}{E:XK}{x m:Str}{p pos apos:Pos}{e o:Expr}{es:List Expr}{ta:TE}{t:TA}
theorem vM{pins:List (Addr×Obj)}{Y:St}{H:Hp}{s:Shared}{Q:VK}{us:List Value}{vs:List V}(F:eF X.prog X.w X.K X.mg X.base CX k f fd ps sp)(hr:ed k X.A)(hb:Binds X.K fd ps ds)(hd:Vals dvs ds)(hx:Passes CX X E)
  (I:Inv X pins Y H s) (r:Vals vs us) (h:sp (vs++dvs) H Q E):wpAny (model X.prog X.w) X.A (call (.ref f) us) (EP X pins Y Q) X.xe s:=by
 have r2:Vals (vs++dvs) (us++ds):=r.append hd;have hl:(us++ds).length=ps.length:=by rw[<-r2.length];exact F.len _ _ _ _ h
 refine wpAny_call (codeAny_mono (F.run X.A X.stack s H ⟨us,[]⟩ (us++ds) (vs++dvs) Q E hr I.Wv (hb s us I.kIn hl) r2 h) fun r s' hq=>?_);cases r with
 |error e=>exact hx pins Y H s e s' I hq
 |ok fl=>
  cases fl with
  |ret u=>exact I.after hq
  |next=>exact False.elim hq
  |brk=>exact False.elim hq
  |cont=>exact False.elim hq
theorem Mc(F:eF X.prog X.w X.K X.mg X.base CX k f fd ps sp)(hr:ed k X.A)(hg:Gl X x)(hm:X.mg x=some (.ref f))(hk:keepIn X.K (.ref f)=true)(hb:Binds X.K fd ps ds)(hd:Vals dvs ds)(hx:Passes CX X E)
  (ha:PA X (e::es) t) (hdb:(x==("__debug__":Str))=false:=by kernel_rfl) (he:starEach (e::es) X.env=(false,eval e X.env)::starEach es X.env:=by rfl) (hpl:(backTo pos (starEach es X.env)).any (·.1)=false:=by rfl):
  PE X (.Call (.Name x p) (e::es) [] pos) (xy sp dvs E t):=by
 intro pins s Y H Q I h;refine wpAny_Call_Name_kw (gY I hg hm ?_ hdb);refine callWith_K (h₀:=X.base) I.ok.mod.kin hk (thn (ha pos pins s Y H _ I h) fun us s1 ⟨vs,H1,I1,r,q⟩=>⟨I1.kIn,?_⟩) he hpl;exact vM F hr hb hd hx I1 r q
theorem aM{pl:Sem Bool}{j:Nat}(he:PE X o ta)(c:Cls X.K C)(hm:Meth X.K C m f)(F:eF X.prog X.w X.K X.mg X.base CX k f fd ps sp)(hr:ed j X.A)(hb:Binds X.K fd ps [])(hx:Passes CX X E)(ha:PA X (e::es) t)(hk:k<=j:=by decide)
  (hst:starEach (e::es) X.env=(false,eval e X.env)::starEach es X.env:=by rfl) (hpl:(backTo pos (starEach es X.env)).any (·.1)=false:=by rfl)
  (ht:eval (.Call (.Attribute o m apos) (e::es) [] pos) X.env=(do
   let ov <-eval o X.env
   standAt apos.atName
   let (f,first) <-holding [ov] (getMethod ov m pl)
   callWith pos f first (backTo pos (starEach (e::es) X.env)) (backToKw pos (keywordEach [] X.env))):=by rfl):
  PE X (.Call (.Attribute o m apos) (e::es) [] pos) (js C m sp [] E ta t):=by
 intro pins s Y H Q I h;refine methodCall_KW (pl:=pl) (thn (he pins s Y H _ I h) fun u s1 hZ=>?_) ht;obtain⟨x,H1,I1,rx,a,dx,fs,ex,ea,l,q⟩:=hZ;subst ex;obtain rfl:u=Value.ref a:=rx;refine rT I1 ea c hm l ?_;refine callWith_K (first:=[.ref a]) (h₀:=X.base) I.ok.mod.kin hm.kp (thn (ha pos pins s1 Y H1 _ I1 q) fun us s2 ⟨vs,H2,I2,r,q2⟩=>⟨I2.kIn,?_⟩) hst hpl;exact vM (us:=.ref a::us) (vs:=.ref a::vs) F (hr.mono hk) hb .nil hx I2 (.cons rfl r) q2
theorem eA{pl:Sem Bool}{j:Nat}(he:PE X o ta)(c:Cls X.K C)(hm:Meth X.K C m f)(F:eF X.prog X.w X.K X.mg X.base CX k f fd ps sp)(hr:ed j X.A)(hb:Binds X.K fd ps [])(hx:Passes CX X E)(hk:k<=j:=by decide)
  (ht:eval (.Call (.Attribute o m apos) [] [] pos) X.env=(do
   let ov <-eval o X.env
   standAt apos.atName
   let (f,first) <-holding [ov] (getMethod ov m pl)
   callWith pos f first (backTo pos (starEach [] X.env)) (backToKw pos (keywordEach [] X.env))):=by rfl):
  PE X (.Call (.Attribute o m apos) [] [] pos) (js C m sp [] E ta fE):=by
 intro pins s Y H Q I h;refine methodCall_KW (pl:=pl) (thn (he pins s Y H _ I h) fun u s1 hZ=>?_) ht;obtain⟨x,H1,I1,rx,a,dx,fs,ex,ea,l,q⟩:=hZ;subst ex;obtain rfl:u=Value.ref a:=rx;refine rT I1 ea c hm l ?_;exact callWith_K0 (first:=[.ref a]) I1.kIn hm.kp (vM (us:=[.ref a]) (vs:=[.ref a]) F (hr.mono hk) hb .nil hx I1 (.cons rfl .nil) q)
structure Mk(K:Frag)(C f:Addr):Prop where
 makes:makesIn K C=true
 init:findIn K (.ref C) "__init__"=some (some (.ref f))
 fn:isFn K (.ref f)=true
 kp:keepIn K (.ref C)=true
theorem xT{pins:List (Addr×Obj)}{Y:St}{H:Hp}{s:Shared}{Q:VK}{us:List Value}{vs:List V}(M:Mk X.K C f)(F:eF X.prog X.w X.K X.mg X.base CX k f fd ps sp)(hr:ed (k+1) X.A)(hb:Binds X.K fd ps ds)(hd:Vals dvs ds)
  (hx:Passes CX X E) (I:Inv X pins Y H s) (r:Vals vs us)
  (h:∀x dx,H x=none->H dx=none->dx≠x->sp (.ref x::(vs++dvs)) (upd (upd H dx (.own x)) x (.ins C dx [])) (fun v H2=>v=.non/\Q (.ref x) H2) E):
  wpAny (model X.prog X.w) X.A (call (.ref C) us) (EP X pins Y Q) X.xe s:=by
 have hq:=h (s.heap.objs.size+1) s.heap.objs.size (I.hok.fresh (Nat.le_succ _)) (I.hok.fresh (le_refl _)) (ne_of_lt (lt_succ_self _));have I2:=Inv.made (C:=C) I;have r2:Vals (V.ref (s.heap.objs.size+1)::(vs++dvs)) (Value.ref (s.heap.objs.size+1)::(us++ds)):=.cons rfl (r.append hd);have hl:(Value.ref (s.heap.objs.size+1)::us++ds).length=ps.length:=by
  have e:=r2.length;rw[F.len _ _ _ _ hq]at e;exact e.symm
 refine wpAny_call (Iy (f:=f) I.kIn M.makes M.init (beq_iff_eq.mp M.fn) (codeAny_mono (F.run _ X.stack _ _ ⟨Value.ref (s.heap.objs.size+1)::us,[]⟩ (Value.ref (s.heap.objs.size+1)::(us++ds)) _ _ E (hr.make C us [])
  (I2.Wv.make C us []) (hb _ (Value.ref (s.heap.objs.size+1)::us) I2.kIn hl) r2 hq) fun r s' hq'=>?_))
 cases r with
 |error e=>exact hx pins Y _ _ e s' I2 hq'
 |ok fl=>
  cases fl with
  |ret u=>
   obtain⟨v,H',I3,rv,ev,q3⟩:=I2.after hq';subst ev;exact⟨rv,⟨V.ref (s.heap.objs.size+1),H',I3,rfl,q3⟩⟩
  |next=>exact False.elim hq'
  |brk=>exact False.elim hq'
  |cont=>exact False.elim hq'
theorem bW{j:Nat}(M:Mk X.K C f)(F:eF X.prog X.w X.K X.mg X.base CX k f fd ps sp)(hr:ed j X.A)(hm:X.mg x=some (.ref C))(hb:Binds X.K fd ps [])(hx:Passes CX X E)
  (ha:PA X (e::es) t) (hk:k+1<=j:=by decide) (hg:Gl X x:=by rfl) (hdb:(x==("__debug__":Str))=false:=by kernel_rfl) (he:starEach (e::es) X.env=(false,eval e X.env)::starEach es X.env:=by rfl) (hpl:(backTo pos (starEach es X.env)).any (·.1)=false:=by rfl):
  PE X (.Call (.Name x p) (e::es) [] pos) (oM C sp [] E t):=by
 intro pins s Y H Q I h;refine wpAny_Call_Name_kw (gY I hg hm ?_ hdb);refine callWith_K (h₀:=X.base) I.ok.mod.kin M.kp (thn (ha pos pins s Y H _ I h) fun us s1 ⟨vs,H1,I1,r,q⟩=>⟨I1.kIn,?_⟩) he hpl;exact xT M F (hr.mono hk) hb .nil hx I1 r q
theorem HM{j:Nat}(M:Mk X.K C f)(F:eF X.prog X.w X.K X.mg X.base CX k f fd ps sp)(hr:ed j X.A)(hm:X.mg x=some (.ref C))(hb:Binds X.K fd ps [])(hx:Passes CX X E)
  (hk:k+1<=j:=by decide) (hg:Gl X x:=by rfl) (hdb:(x==("__debug__":Str))=false:=by kernel_rfl):PE X (.Call (.Name x p) [] [] pos) (oM C sp [] E fE):=by
 intro pins s Y H Q I h;refine wpAny_Call_Name_kw (gY I hg hm ?_ hdb);exact callWith_K0 I.kIn M.kp (xT (us:=[]) M F (hr.mono hk) hb .nil hx I .nil h)
end
structure au(N P:List Str)(sc:Scope):Prop where
 kind:sc.kind=.function
 co:sc.isCoroutine=false
 gen:sc.isGenerator=false
 nd:N.Nodup
 pre:N.take P.length=P
 par:∀x∈P,sc.names.lookup x=some .local\/sc.names.lookup x=some .cell
 To:∀y∈sc.names,y.2≠.free
theorem uF{kindOf:Str->Option NameKind}{x:Str}:∀{binds:List (Str×Value)}{m:Str->Option Value},(∀v,(x,v)∉binds)->bindL kindOf binds m x=m x
 |[],_,_=>rfl
 |(n,v)::r,m,h=>by
  unfold bindL;rw[uF fun w hw=>h w (mem_cons_of_mem _ hw)];split
  .have:x≠n:=by rintro rfl;exact h v mem_cons_self
   simp[this]
  .rfl
theorem uH{kindOf:Str->Option NameKind}{x:Str}:∀{binds:List (Str×Value)}{m:Str->Option Value},(∀v,(x,v)∉binds)->bindC kindOf binds m x=m x
 |[],_,_=>rfl
 |(n,v)::r,m,h=>by
  unfold bindC;rw[uH fun w hw=>h w (mem_cons_of_mem _ hw)];split
  .rfl
  .have:x≠n:=by rintro rfl;exact h v mem_cons_self
   simp[this]
theorem uG{kindOf:Str->Option NameKind}{x:Str}{v:Value}:∀{P:List Str}{vs:List Value}{i:Nat}{m:Str->Option Value},P.Nodup->P[i]?=some x->vs[i]?=some v->kindOf x=some .local->
  bindL kindOf (P.zip vs) m x=some v
 |[],_,_,_,_,h,_,_=>by simp at h
 |_::_,[],_,_,_,_,h,_=>by simp at h
 |p::P,w::vs,0,m,nd,h1,h2,hk=>by
  simp at h1 h2;subst h1;subst h2;show bindL kindOf ((p,w)::P.zip vs) m p=_;unfold bindL;rw[uF fun v hv=>(nodup_cons.mp nd).1 (of_mem_zip hv).1,if_pos hk];simp
 |p::P,w::vs,i+1,m,nd,h1,h2,hk=>by
  show bindL kindOf ((p,w)::P.zip vs) m x=_;unfold bindL;exact uG (i:=i) (nodup_cons.mp nd).2 (by simpa using h1) (by simpa using h2) hk
theorem uI{kindOf:Str->Option NameKind}{x:Str}{v:Value}:∀{P:List Str}{vs:List Value}{i:Nat}{m:Str->Option Value},P.Nodup->P[i]?=some x->vs[i]?=some v->kindOf x≠some .local->
  bindC kindOf (P.zip vs) m x=some v
 |[],_,_,_,_,h,_,_=>by simp at h
 |_::_,[],_,_,_,_,h,_=>by simp at h
 |p::P,w::vs,0,m,nd,h1,h2,hk=>by
  simp at h1 h2;subst h1;subst h2;show bindC kindOf ((p,w)::P.zip vs) m p=_;unfold bindC;rw[uH fun v hv=>(nodup_cons.mp nd).1 (of_mem_zip hv).1,if_neg hk];simp
 |p::P,w::vs,i+1,m,nd,h1,h2,hk=>by
  show bindC kindOf ((p,w)::P.zip vs) m x=_;unfold bindC;exact uI (i:=i) (nodup_cons.mp nd).2 (by simpa using h1) (by simpa using h2) hk
def start(N:List Str)(vs:List V):St:=vs.map some++List.replicate (N.length-vs.length) none
def bq(CX:CXT)(P:Program)(w:World)(K:Frag)(mg:Str->Option Value)(base:Heap)(N:List Str)(qual:Str)(scope:Scope)(f:Addr)(cd:Value)(A:Around)(outer:List Env)(s:Shared)(H:Hp)(E:XK):Cx where
 prog:=P
 w:=w
 K:=K
 mg:=mg
 base:=base
 A:=A.deeper (envOfC qual scope s.heap.objs.size f cd)
 N:=N
 s₀:=s
 H₀:=H
 env:=envOfC qual scope s.heap.objs.size f cd
 outer:=outer
 stack:=envOfC qual scope s.heap.objs.size f cd::outer
 ex:=[]
 calm:=true
 fn:=fun _=>true
 pn:=[]
 xe:=fun e s'=>wpAny (model P w) (A.deeper (envOfC qual scope s.heap.objs.size f cd)) (leaving (envOfC qual scope s.heap.objs.size f cd) e) (fun _ s''=>CX outer H s E e s'') (fun e' s''=>CX outer H s E e' s'') s'
theorem z9{sc:Scope}{n:Nat}{x:Str}(h:sc.names.lookup x=some .cell):∃c,(cellsFrom n sc.names []).lookup x=some c:=by
 have q:=cellsFrom_some sc.names n [] (.inl h);exact Option.isSome_iff_exists.mp q
theorem E9{CX:CXT}{P:Program}{w:World}{K:Frag}{mg:Str->Option Value}{base:Heap}{N ps:List Str}{qual:Str}{scope:Scope}{f:Addr}{cd:Value}{A:Around}{outer:List Env}{s s1:Shared}{H:Hp}{E:XK}{us:List Value}{vs:List V}
  (S:au N ps scope) (hd:A.handled=none) (e0:Ap P w K mg base A outer s H) (hl:vs.length=ps.length) (r:Vals vs us)
  (x:InCallC s s.heap.objs.size (bindL (envOfC qual scope s.heap.objs.size f cd).kindOf (ps.zip us) fun _=>none) (cellsFrom (s.heap.objs.size+1) scope.names []) (bindC (envOfC qual scope s.heap.objs.size f cd).kindOf (ps.zip us) fun _=>none) s1):
  Inv (bq CX P w K mg base N qual scope f cd A outer s H E) [] (start N vs) H s1:=by
 have hpl:ps.length<=N.length:=by have:=congrArg List.length S.pre;rw[length_take]at this;omega
 obtain⟨h1,tk,rfl,hk⟩:=x.done;have noA:∀b:Addr,b∉(bq CX P w K mg base N qual scope f cd A outer s H E).ex:=fun b z=>absurd (show b∈([]:List Addr)from z) (by simp)
 refine⟨⟨e0.mod,S.kind,rfl,rfl,le_refl _,fun y z c h1 h2=>?_,fun y hy=>?_,fun y c _ h=>?_,fun _=>hd,Around.frames_deeper e0.frames,.inr ⟨rfl,rfl⟩,fun b z=>absurd z (noA b),e0.bs,e0.bsz,fun b _ _=>noA b,fun b z=>absurd z (noA b),e0.jE,e0.frf⟩,
  rfl,e0.bare,Un.kept hk,⟨_,x.toInCall.ns,fun i y v h1 h2 h3=>?_⟩,fun y c h=>⟨_,x.cell y c h⟩,e0.hok.fresh (le_refl _),fun y c h=>?_,fun p hp=>absurd (show p∈([]:List (Addr×Obj))from hp) (by simp),e0.hok.kept hk,?_⟩
 .exact name_of_addr x.apart (PySem.mem_of_lookup h1) (PySem.mem_of_lookup h2)
 .have hy:scope.names.lookup y=some .cell\/scope.names.lookup y=some .free:=hy;rcases hy with hy|hy
  .exact z9 hy
  .exact absurd rfl (S.To _ (PySem.mem_of_lookup hy))
 .exact le_of_lt (x.above y c (PySem.mem_of_lookup h))
 .have hi:i<vs.length:=by
   unfold start at h2;by_cases hi:i<vs.length
   .exact hi
   .rw[List.getElem?_append_right (by simpa using hi)]at h2;rw[List.getElem?_replicate]at h2;split at h2<;>cases h2
  have ha:vs[i]?=some v:=by
   unfold start at h2;rw[List.getElem?_append_left (by simpa using hi),List.getElem?_map]at h2;cases e:vs[i]? with
   |none=>rw[e]at h2;cases h2
   |some a=>rw[e]at h2;cases h2;rfl
  obtain⟨u,hu,rv⟩:=r.get ha;have hp:ps[i]?=some y:=by
   rw[<-S.pre,List.getElem?_take_of_lt (by omega)];exact h1
  have ndP:ps.Nodup:=by rw[<-S.pre];exact S.nd.sublist (List.take_sublist _ _)
  refine⟨u,rv,?_⟩;rcases S.par y (mem_of_getElem? hp)with k|k
  .exact .inl ⟨k,uG ndP hp hu k⟩
  .obtain⟨c,e⟩:=z9 (n:=s.heap.objs.size+1) k;refine .inr ⟨.inl k,c,e,?_⟩;have q:=x.cell y c e;rw[uI ndP hp hu (by show scope.names.lookup y≠_;rw[k];decide)]at q;exact q
 .exact e0.hok.fresh (le_of_lt (x.above y c (PySem.mem_of_lookup h)))
 .unfold start;show _=N.length;rw[length_append,length_map,List.length_replicate];omega
theorem Jf{CX:CXT}{P:Program}{w:World}{K:Frag}{mg:Str->Option Value}{base:Heap}{k:Nat}{f:Addr}{name qual:Str}{params:Arguments}{body:List Stmt}{scope:Scope}{dV kV doc pm cdv ct oc:Value}{an od:Option Addr}
  {osl:Array (Option Value)} {N ps:List Str} {sp:Sp} (lk:K.lookup f=some ⟨oc,od,.func (fnOf name qual params body scope dV kV doc pm an cdv ct),osl⟩) (hcd:codeIn K cdv qual=true) (S:au N ps scope)
  (len:∀vs H Q E,sp vs H Q E->vs.length=ps.length)
  (kh:∀(A:Around)(outer:List Env)(s:Shared)(H:Hp)(vs:List V)(Q:VK)(E:XK),ed k (A.deeper (envOfC qual scope s.heap.objs.size f cdv))->sp vs H Q E->
   ∃t,PSs (bq CX P w K mg base N qual scope f cdv A outer s H E) body t/\t {nx:=fun _ H'=>Q .non H',rt:=Q} (start N vs) H):
  eF P w K mg base CX (k+1) f (fnOf name qual params body scope dV kV doc pm an cdv ct) ps sp:=by
 refine⟨len,fun A outer s H args us vs Q E hr e0 hb r hsp=>?_⟩;have hl:=len _ _ _ _ hsp;have KX:K.In s.heap:=e0.mod.kin.keeps fun b o e=>(e0.bs b o e).1
 have lim:s.heap.NoLimit:=e0.mod.nolimit.keeps fun b o e=>(e0.bs b o e).1
 have V9:∀y∈ps.zip us,scope.names.lookup y.1=some .local\/(scope.names.lookup y.1=some .cell/\((cellsFrom (s.heap.objs.size+1) scope.names []).lookup y.1).isSome=true):=fun⟨n,v⟩ hy=>by
  rcases S.par n (of_mem_zip hy).1 with q|q
  .exact .inl q
  .exact .inr ⟨q,cellsFrom_some _ _ _ (.inl q)⟩
 refine codeAny_call_function hr.depth (KX _ _ lk) rfl S.co S.gen rfl (PySem.W.codeRec_of KX hcd) (hb _ _ _ _ ?_);refine wpAny_newFunctionEnv_cells S.kind V9 fun env he s1 x=>?_
 subst he;refine⟨lim.keeps x.toInCall.keep,codeAny_func ?_⟩;obtain⟨t,ht,hq⟩:=kh A outer s H vs Q E (hr.deeper _) hsp;have I:Inv (bq CX P w K mg base N qual scope f cdv A outer s H E) [] (start N vs) H s1:=E9 S hr.hd e0 hl r x;refine wpAny_mono (ht [] s1 (start N vs) H _ I hq) (fun fl s' hs=>?_) fun e s' hs=>hs
 have fin:∀{Y':St}{H':Hp}{v:V}{u:Value},Inv (bq CX P w K mg base N qual scope f cdv A outer s H E) [] Y' H' s'->RelV v u->Q v H'->CE outer P w H s Q u s':=
  fun{Y' H' v u} J rv q=>⟨v,H',J.os,J.bare,J.base,J.hok,rv,q⟩
 cases fl with
 |ret u=>
  obtain⟨v,Y',H',J,rv,q⟩:=hs;exact fin J rv q
 |next=>
  obtain⟨Y',H',J,q⟩:=hs;exact fin (v:=V.non) (u:=Value.none) J rfl q
 |brk=>
  obtain⟨_,_,_,q⟩:=hs;exact False.elim q
 |cont=>
  obtain⟨_,_,_,q⟩:=hs;exact False.elim q
section
variable{X:Cx}{x:Str}{p pos:Pos}{e:Expr}{es:List Expr}{t:TA}{id T:String}{r:List V->Hp->VK->Prop}
def tCB(r:List V->Hp->VK->Prop)(t:TA):TE:=fun Y H Q=>t Y H fun vs H1=>r vs H1 Q
theorem aL(hc:iQ X (.builtin id) r)(hm:X.mg x=none)(ha:PA X (e::es) t)(hg:Gl X x:=by rfl)(hv:bootBuiltins x=some (.builtin id):=by decide +kernel)(hn:x ≠ "__name__":=by decide)(hdb:(x==("__debug__":Str))=false:=by kernel_rfl)
  (he:starEach (e::es) X.env=(false,eval e X.env)::starEach es X.env:=by rfl) (hpl:(backTo pos (starEach es X.env)).any (·.1)=false:=by rfl):PE X (.Call (.Name x p) (e::es) [] pos) (tCB r t):=by
 intro pins s Y H Q I h;refine wpAny_Call_Name_kw (jh I hg hm hv ?_ hn hdb);exact PyProof.Rows.callWith_builtin1 (thn (ha pos pins s Y H _ I h) fun us s1 ⟨vs,H1,I1,r1,q1⟩=>hc pins s1 Y H1 vs us Q I1 r1 q1) he hpl
theorem n0(hc:iQ X (.type T) r)(hm:X.mg x=none)(ha:PA X (e::es) t)(hg:Gl X x:=by rfl)(hv:bootBuiltins x=some (.type T):=by decide +kernel)(hn:x ≠ "__name__":=by decide)(hdb:(x==("__debug__":Str))=false:=by kernel_rfl)
  (he:starEach (e::es) X.env=(false,eval e X.env)::starEach es X.env:=by rfl) (hpl:(backTo pos (starEach es X.env)).any (·.1)=false:=by rfl):PE X (.Call (.Name x p) (e::es) [] pos) (tCB r t):=by
 intro pins s Y H Q I h;refine wpAny_Call_Name_kw (jh I hg hm hv ?_ hn hdb);exact PyProof.Rows.callWith_type1 (thn (ha pos pins s Y H _ I h) fun us s1 ⟨vs,H1,I1,r1,q1⟩=>hc pins s1 Y H1 vs us Q I1 r1 q1) he hpl
end
end L2
namespace HT
open PySem PyProof.Rows
section
variable{prog:Program}{w:World}{A:Around}{E:Value->Shared->Prop}{s:Shared}
theorem M9{t b:Addr}{vs ws:List Value}{Q:Value->Shared->Prop}(ht:IsTup s.heap t vs.toArray)(hb:IsTup s.heap b ws.toArray)(hv:vs≠[])
  (h1:ws=[]->Q (.ref t) s) (h2:ws≠[]->Q (.ref s.heap.objs.size) {s with heap:=s.heap.push {cls:=.type "tuple",data:=.seq (vs++ws).toArray}})
  (hsz:vs.length+ws.length<=sizeLine):wpAny (model prog w) A (binaryOp .Add (.ref t) (.ref b)) Q E s:=by
 obtain⟨⟨cls,dd,data,sl⟩,ho,hc,n,hd⟩:=id ht;obtain⟨⟨Y6,dd2,data2,sl2⟩,ho2,hc2,n2,hd2⟩:=id hb;simp only at hc hd hc2 hd2;subst hc hd hc2 hd2;have e:vs.toArray++ws.toArray=(vs++ws).toArray:=by simp
 by_cases hw:ws=[]
 .exact concat_meets ⟨_,ho,rfl⟩ ⟨_,ho2,rfl⟩ noFill_tuple_add seq_tuple_add PySem.F.slot_tuple_add PySem.F.entry_tuple_add (PySem.F.args_tuple_add_2 _ _)
   (tuple_addW1 t b vs.toArray ws.toArray n n2 dd dd2 sl sl2 (by simpa using hv) (by simp[hw])) ⟨ho,ho2,h1 hw⟩
 .refine concat_meets ⟨_,ho,rfl⟩ ⟨_,ho2,rfl⟩ noFill_tuple_add seq_tuple_add PySem.F.slot_tuple_add PySem.F.entry_tuple_add (PySem.F.args_tuple_add_2 _ _)
   (tuple_addW2 t b vs.toArray ws.toArray n n2 dd dd2 sl sl2 (by simpa using hv) (by simpa using hw) (by rw[size_toArray,size_toArray];exact hsz)) ⟨ho,ho2,?_⟩
  rw[e];exact h2 hw
def sIx(n d:Nat):Option Int->Nat
 |none=>d
 |some v=>if v<0 then(v+(n:Int)).toNat else min v.toNat n
theorem kJ(n d k:Nat):sIx n d (some (k:Int))=min k n:=by
 show(if (k:Int)<0 then((k:Int)+(n:Int)).toNat else min (k:Int).toNat n)=min k n;rw[if_neg (by omega),toNat_natCast]
theorem Ba(n d:Nat)(hd:d<=n)(o:Option Int):sIx n d o<=n:=by
 cases o with
 |none=>exact hd
 |some v=>
  show(if v<0 then(v+(n:Int)).toNat else min v.toNat n)<=n;by_cases hv:v<0
  .rw[if_pos hv];omega
  .rw[if_neg hv];exact Nat.min_le_right _ _
theorem DG(v:Int)(n d:Nat):(if v<0 then max (v+(n:Int)) 0 else min v (n:Int))=((sIx n d (some v):Nat):Int):=by
 show(if v<0 then max (v+(n:Int)) 0 else min v (n:Int))=(((if v<0 then(v+(n:Int)).toNat else min v.toNat n):Nat):Int);by_cases hv:v<0
 .simp only[if_pos hv];omega
 .simp only[if_neg hv];omega
theorem Cs(lo hi:Option Int)(n:Nat):Builtin.Slice.sliceAdjust lo hi 1 (n:Int)=(((sIx n 0 lo:Nat):Int),((sIx n n hi:Nat):Int)):=by
 have h1:¬((1:Int)<0):=by omega
 unfold Builtin.Slice.sliceAdjust;simp only[h1,if_false];refine Prod.ext ?_ ?_
 .cases lo with
  |none=>rfl
  |some v=>exact DG v n 0
 .cases hi with
  |none=>rfl
  |some v=>exact DG v n n
theorem Bg(i j:Nat):Builtin.Slice.slicePlaces (i:Int) (j:Int) 1=j-i:=by
 unfold Builtin.Slice.slicePlaces;have h1:(1:Int)>0:=by omega
 simp only[h1,if_true,Int.ediv_one];split<;>omega
theorem qo{v:Value}{o:Option Int}{Q:Option Int->Shared->Prop}(p:IsPart v o)(h:Q o s):wpAny (model prog w) A (Builtin.Slice.slicePartIndex v) Q E s:=by
 cases p with
 |none=>exact slicePart_none h
 |int i t=>exact slicePart_int h
theorem nS{sl:Addr}{vl vu:Value}{lo hi:Option Int}{n:Nat}{Q:Int×Int×Nat->Shared->Prop}(hs:s.heap.IsSliceOf sl vl vu .none)(pl:IsPart vl lo)(pu:IsPart vu hi)
  (h:Q (((sIx n 0 lo:Nat):Int),1,sIx n n hi-sIx n 0 lo) s):wpAny (model prog w) A (Builtin.Slice.sliceApplied (.ref sl) (pure (n:Int))) Q E s:=by
 obtain⟨os,hos,hcs,hds⟩:=id hs;unfold Builtin.Slice.sliceApplied Builtin.Slice.sliceFields;refine wpAny_bind (wpAny_bind (wpAny_field hos hds (x:=vl) rfl (wpAny_bind (wpAny_field hos hds (x:=vu) rfl (wpAny_bind (wpAny_field hos hds (x:=.none) rfl (wpAny_pure ?_)))))));refine wpAny_bind (slicePart_none ?_);show wpAny _ _ (if ((1:Int)==0)=true then _ else _) _ _ s;rw[if_neg (by decide)];refine wpAny_bind (qo pl (wpAny_bind (qo pu (wpAny_bind (wpAny_pure ?_)))));show wpAny _ _ (match Builtin.Slice.sliceAdjust lo hi 1 (n:Int)with|(lo,hi)=>pure (lo,(1:Int),Builtin.Slice.slicePlaces lo hi 1)) _ _ s;rw[Cs lo hi n];show wpAny _ _ (pure (((sIx n 0 lo:Nat):Int),(1:Int),Builtin.Slice.slicePlaces ((sIx n 0 lo:Nat):Int) ((sIx n n hi:Nat):Int) 1)) _ _ s;rw[Bg];exact wpAny_pure h
theorem HF(xs:Array Value)(i k:Nat):((List.range k).filterMap fun(m:Nat)=>xs[((i:Int)+(m:Int)*1).toNat]?).toArray=((xs.toList.drop i).take k).toArray:=by
 have e:(fun(m:Nat)=>xs[((i:Int)+(m:Int)*1).toNat]?)=fun m=>xs[i+m]?:=by
  funext m
  have:((i:Int)+(m:Int)*1).toNat=i+m:=by omega
  rw[this]
 rw[e];have:=pick_run xs i k;rw[List.filterMap_map]at this;have e2:((fun x=>xs[x]?) ∘ fun x=>i+x)=fun m=>xs[i+m]?:=rfl
 rw[e2]at this;rw[this]
theorem mV{t sl:Addr}{items:Array Value}{vl vu:Value}{lo hi:Option Int}{Q:Value->Shared->Prop}(ht:IsTup s.heap t items)(hs:s.heap.IsSliceOf sl vl vu .none)(pl:IsPart vl lo)(pu:IsPart vu hi)
  (hw:¬(sIx items.size 0 lo=0/\sIx items.size items.size hi=items.size))
  (h:Q (.ref s.heap.objs.size) {s with heap:=s.heap.push {cls:=.type "tuple",data:=.seq ((items.toList.drop (sIx items.size 0 lo)).take (sIx items.size items.size hi-sIx items.size 0 lo)).toArray}})
  (hsz:items.size<=sizeLine):wpAny (model prog w) A (getItem (.ref t) (.ref sl)) Q E s:=by
 have Dw:sizeOk (.seq ((items.toList.drop (sIx items.size 0 lo)).take (sIx items.size items.size hi-sIx items.size 0 lo)).toArray):=by
  show((items.toList.drop (sIx items.size 0 lo)).take (sIx items.size items.size hi-sIx items.size 0 lo)).toArray.size<=sizeLine;rw[size_toArray,length_take,length_drop,Array.length_toList];omega
 have hj:sIx items.size items.size hi<=items.size:=Ba _ _ (le_refl _) hi;obtain⟨os,hos,hcs,hds⟩:=id hs;have hTs:s.TypeIs (.ref sl) "slice":=⟨os,hos,hcs⟩;unfold getItem
 try with_reducible refine wpAny_holding ?_
 first|refine wpAny_bind (wpAny_pure ?_)|skip
 refine wpAny_bind (wpAny_sequenceKey ht.typeIs (by decide) ?_);refine wpAny_bind (wpAny_callSpecial?_slot (name:=Str.ofString "__getitem__") ht.typeIs PyProof.Rows.slot_tuple_getitem
  (wpAny_call_entry PyProof.Rows.slot_tuple_getitem ht.typeIs entry_tuple_getitem ?_ (args_tuple_getitem _ _)))
 show wpAny _ _ (Builtin.Tuple.tupleItemsOf (.ref t) >>= _) _ _ s;refine wpAny_bind (tupleItemsOf_ ht ?_);refine wpAny_bind (wpAny_typeOf hTs ?_);rw[if_pos (by decide)];refine wpAny_bind (nS hs pl pu ?_);have hno:¬((((sIx items.size 0 lo:Nat):Int)==0&&(1:Int)==1&&(sIx items.size items.size hi-sIx items.size 0 lo)==items.size)=true):=by
  intro q;rw[Bool.and_eq_true,Bool.and_eq_true]at q;have q1:((sIx items.size 0 lo:Nat):Int)=0:=eq_of_beq q.1.1;have q2:sIx items.size items.size hi-sIx items.size 0 lo=items.size:=eq_of_beq q.2;exact hw ⟨by omega,by omega⟩
 show wpAny _ _ (if (((sIx items.size 0 lo:Nat):Int)==0&&(1:Int)==1&&(sIx items.size items.size hi-sIx items.size 0 lo)==items.size)=true then _ else _) _ _ s;rw[if_neg hno,HF]
 first
  |exact wpAny_bind (m:=Builtin.Tuple.tupleExact _) (wpAny_newObj_type (wpAny_pure ⟨_,rfl,wpAny_pure h⟩) Dw)
  |exact wpAny_bind (m:=Builtin.Tuple.tupleExact _) (wpAny_newObj_type (wpAny_bind (wpAny_pure (wpAny_pure ⟨_,rfl,wpAny_pure h⟩))) Dw)
  |exact wpAny_bind (wpAny_bind (m:=Builtin.Tuple.tupleExact _) (wpAny_newObj_type (wpAny_pure (wpAny_pure ⟨_,rfl,wpAny_pure h⟩)) Dw))
  |exact wpAny_bind (wpAny_bind (m:=Builtin.Tuple.tupleExact _) (wpAny_newObj_type (wpAny_pure ⟨_,rfl,wpAny_pure h⟩) Dw))
end
end HT
namespace L2
open PySem PySem.Spec PyProof.Rows
abbrev TO:=St->Hp->(Option Int->Hp->Prop)->Prop
def PO(X:Cx)(e:Option Expr)(t:TO):Prop:=
 ∀(pins:List (Addr×Obj))(s:Shared)(Y:St)(H:Hp)(Q:Option Int->Hp->Prop),Inv X pins Y H s->t Y H Q->
  wpAny (model X.prog X.w) X.A (evalPart e X.env) (fun u s'=>∃o H',Inv X pins Y H' s'/\IsPart u o/\Q o H') X.xe s
def LG:TO:=fun _ H Q=>Q none H
def Gm(t:TE):TO:=fun Y H Q=>t Y H fun x H1=>∃i,x=.int i/\Q (some i) H1
theorem intsAre_of{ns:List Int}:∀{us:List Value},Vals (ns.map V.int) us->IntsAre us ns:=by
 induction ns with
 |nil=>intro us r;rw[map_nil]at r;cases r;exact .nil
 |cons n ns ih=>
  intro us r;rw[map_cons]at r;cases r with
  |cons r1 r2=>
   obtain⟨t,e⟩:=r1;subst e;exact .cons n t (ih r2)
section
variable{X:Cx}{e:Expr}{te:TE}{lo hi:Option Expr}{tl th:TO}{pos p2:Pos}
theorem vU:PO X none LG:=by
 intro pins s Y H Q I h;rw[evalPart_none];exact wpAny_pure ⟨none,H,I,.none,h⟩
theorem eY(h:PE X e te):PO X (some e) (Gm te):=by
 intro pins s Y H Q I hw;rw[evalPart_some];refine thn (h pins s Y H _ I hw) fun u s1 hZ=>?_
 obtain⟨x,H1,I1,r1,q1⟩:=hZ;obtain⟨i,rfl,q⟩:=q1;obtain⟨t,rfl⟩:=r1;exact⟨some i,H1,I1,.int i t,q⟩
def SlR(X:Cx)(r:V->Option Int->Option Int->Hp->VK->Prop):Prop:=
 ∀(pins:List (Addr×Obj))(s:Shared)(Y:St)(H:Hp)(x:V)(v vl vu:Value)(lo hi:Option Int)(sl:Addr)(Q:VK),Inv X pins Y H s->RelV x v->s.heap.IsSliceOf sl vl vu .none->IsPart vl lo->IsPart vu hi->r x lo hi H Q->
  ∃T id,typeLookup (.type T) "__getitem__"=pure (some (.builtin id))/\s.TypeIs v T/\wpAny (model X.prog X.w) X.A (getItem v (.ref sl)) (EP X pins Y Q) X.xe s
def tSl(r:V->Option Int->Option Int->Hp->VK->Prop)(te:TE)(tl th:TO):TE:=fun Y H Q=>te Y H fun x H1=>tl Y H1 fun l H2=>th Y H2 fun u H3=>r x l u H3 Q
theorem gH{r:V->Option Int->Option Int->Hp->VK->Prop}(hr:SlR X r)(he:PE X e te)(hl:PO X lo tl)(hu:PO X hi th):PE X (.Subscript e (.Slice lo hi none p2) pos) (tSl r te tl th):=by
 intro pins s Y H Q I h;refine Subscript_ (thn (he pins s Y H _ I h) fun v s1 hZ=>?_);obtain⟨x,H1,I1,r1,q1⟩:=hZ;refine wpAny_Slice (thn (hl pins s1 Y H1 _ I1 q1) fun vl s2 ⟨l,H2,I2,pl,q2⟩=>thn (hu pins s2 Y H2 _ I2 q2) fun vu s3 hZ=>?_);obtain⟨u,H3,I3,pu,q3⟩:=hZ;rw[evalPart_none];refine wpAny_pure ?_;have I4:Inv X pins Y H3 {s3 with heap:=s3.heap.push {cls:=.type "slice",data:=.fields #[vl,vu,.none]}}:=I3.kept (t':=s3.toks) fun b ob q=>Heap.get?_push_of_some _ q
 obtain⟨T,id,hT,ht,hg⟩:=hr pins {s3 with heap:=s3.heap.push {cls:=.type "slice",data:=.fields #[vl,vu,.none]}} Y H3 x v vl vu l u s3.heap.objs.size Q I4 r1 (Heap.IsSliceOf.new ..) pl pu q3;show wpAny (model X.prog X.w) X.A (subscriptTail e (.Slice lo hi none p2) v (.ref s3.heap.objs.size)) (EP X pins Y Q) X.xe {s3 with heap:=s3.heap.push {cls:=.type "slice",data:=.fields #[vl,vu,.none]}};exact tail_any (ops:=[.ref s3.heap.objs.size,v]) ht hT hg (by with_unfolding_all rfl)
def m8(xs:List V)(lo hi:Option Int):List V:=(xs.drop (HT.sIx xs.length 0 lo)).take (HT.sIx xs.length xs.length hi-HT.sIx xs.length 0 lo)
theorem o7(xs:List V)(lo hi:Option Int):(m8 xs lo hi).length<=xs.length:=by
 unfold m8;rw[length_take,length_drop];omega
def W5(K:Frag):V->Option Int->Option Int->Hp->VK->Prop:=fun x lo hi H Q=>∃a xs,x=.ref a/\SqT K H a xs/\
 ¬(HT.sIx xs.length 0 lo=0/\HT.sIx xs.length xs.length hi=xs.length)/\∀p,H p=none->Q (.ref p) (upd H p (.tup (m8 xs lo hi)))
theorem AQ:SlR X (W5 X.K):=by
 intro pins s Y H x v vl vu lo hi sl Q I rx hs pl pu h;obtain⟨a,xs,rfl,hx,hw,q⟩:=h;cases rx;obtain⟨its,r,ht,hz⟩:=I.tuple hx;have hlen:its.toArray.size=xs.length:=by rw[size_toArray];exact r.length.symm
 refine⟨"tuple",_,PyProof.Rows.slot_tuple_getitem.lookup,ht.typeIs,?_⟩;refine HT.mV ht hs pl pu (by rw[hlen];exact hw) ?_ (by rw[hlen];exact hz);rw[hlen];refine⟨.ref s.heap.objs.size,_,I.laid (t':=s.toks) (o:=.tup (m8 xs lo hi)) (fun b ob q=>Heap.get?_push_of_some _ q) (le_refl _) ?_,rfl,q _ (I.hok.fresh (le_refl _))⟩;exact⟨le_trans (o7 xs lo hi) hz,_,(r.drop (HT.sIx xs.length 0 lo)).take (HT.sIx xs.length xs.length hi-HT.sIx xs.length 0 lo),IsTup.new _ _⟩
def Vi(K:Frag):R2:=fun x y H Q=>∃a b xs ys,x=.ref a/\y=.ref b/\SqT K H a xs/\SqT K H b ys/\xs≠[]/\xs.length+ys.length<=sizeLine/\
 (ys=[]->Q (.ref a) H)/\(ys≠[]->∀p,H p=none->Q (.ref p) (upd H p (.tup (xs++ys))))
theorem Vals.wg{xs:List V}{us:List Value}(r:Vals xs us):us=[]↔xs=[]:=by
 cases r with
 |nil=>simp
 |cons _ _=>simp
theorem Mf:OpR X (binaryOp .Add) (Vi X.K):=by
 intro pins s Y H x y v u Q I rx ry h;obtain⟨a,b,xs,ys,rfl,rfl,ha,hb,hx,hz,q1,q2⟩:=h;cases rx;cases ry;obtain⟨its,r1,p1,_⟩:=I.tuple ha;obtain⟨tN,r2,p2,_⟩:=I.tuple hb;refine HT.M9 p1 p2 (fun z=>hx (r1.wg.mp z)) (fun z=>⟨.ref a,H,I,rfl,q1 (r2.wg.mp z)⟩) (fun z=>?_) (by rw[<-r1.length,<-r2.length];exact hz);refine⟨.ref s.heap.objs.size,_,I.laid (t':=s.toks) (o:=.tup (xs++ys)) (fun b ob q=>Heap.get?_push_of_some _ q) (le_refl _) ?_,rfl,q2 (fun w=>z (r2.wg.mpr w)) _ (I.hok.fresh (le_refl _))⟩;exact⟨by rw[length_append];exact hz,_,r1.append r2,IsTup.new _ _⟩
end
def ixN(n:Nat)(i:Int):Option Nat:=if 0<=i then(if i<n then some i.toNat else none)else if -(n:Int)<=i then some (i+n).toNat else none
def atI{I:Type}(xs:List I)(i:Int):Option I:=(ixN xs.length i).bind fun j=>xs[j]?
theorem Du{n:Nat}{i:Int}{j:Nat}(h:ixN n i=some j):seqIndex? i n=some j/\j<n/\-(n:Int)<=i/\i<n:=by
 unfold ixN at h;by_cases h0:0<=i
 .rw[if_pos h0]at h;by_cases h1:i<n
  .rw[if_pos h1]at h;have e:i.toNat=j:=Option.some.inj h;exact⟨by rw[seqIndex_of h0 h1,e],by omega,by omega,h1⟩
  .rw[if_neg h1]at h;cases h
 .rw[if_neg h0]at h;by_cases h1:-(n:Int)<=i
  .rw[if_pos h1]at h;have e:(i+n).toNat=j:=Option.some.inj h;exact⟨by rw[seqIndex_neg (by omega) h1,e],by omega,h1,by omega⟩
  .rw[if_neg h1]at h;cases h
theorem xh{I:Type}{xs:List I}{i:Int}{v:I}(h:atI xs i=some v):∃j,seqIndex? i xs.length=some j/\xs[j]?=some v/\j<xs.length/\-(xs.length:Int)<=i/\i<xs.length:=by
 unfold atI at h;cases e:ixN xs.length i with
 |none=>rw[e]at h;cases h
 |some j=>
  rw[e]at h;obtain⟨h1,h2,h3,h4⟩:=Du e;exact⟨j,h1,h,h2,h3,h4⟩
theorem dm{I:Type}{xs:List I}{j:Nat}{v:I}(h:xs[j]?=some v):atI xs (j:Int)=some v:=by
 have hj:j<xs.length:=(List.getElem?_eq_some_iff.mp h).1;have e:ixN xs.length (j:Int)=some j:=by
  unfold ixN;rw[if_pos (by omega),if_pos (by omega)];simp
 unfold atI;rw[e];exact h
theorem gP{I:Type}(xs:List I)(v:I):atI (xs++[v]) (-1)=some v:=by
 have hl:(xs++[v]).length=xs.length+1:=by simp
 have e:ixN (xs++[v]).length (-1)=some xs.length:=by
  unfold ixN;rw[hl,if_neg (by decide),if_pos (by omega)];congr 1
  omega
 unfold atI;rw[e];show(xs++[v])[xs.length]?=some v;simp
def Nk(b:Expr):Prop:=∀o i,subscripted b false o i=operate [o,i] (getItem o i)
def IxR(X:Cx)(r:R2):Prop:=
 ∀(value slice:Expr)(pins:List (Addr×Obj))(s:Shared)(Y:St)(H:Hp)(x y:V)(v u:Value)(Q:VK),Inv X pins Y H s->RelV x v->RelV y u->r x y H Q->
  subscripted slice false v u=operate [v,u] (getItem v u)->wpAny (model X.prog X.w) X.A (subscriptTail value slice v u) (EP X pins Y Q) X.xe s
def MtR(X:Cx)(id:String)(r:V->List V->Hp->VK->Prop):Prop:=
 ∀(pins:List (Addr×Obj))(s:Shared)(Y:St)(H:Hp)(x:V)(xs:List V)(v:Value)(us:List Value)(Q:VK),Inv X pins Y H s->RelV x v->Vals xs us->r x xs H Q->
  wpAny (model X.prog X.w) X.A (call (.builtin id) (v::us)) (EP X pins Y Q) X.xe s
section
variable{X:Cx}{a b:Expr}{ta tb:TE}{pos:Pos}
theorem az{r:R2}(hr:IxR X r)(ha:PE X a ta)(hb:PE X b tb)(hs:Nk b:=by exact fun _ _=>rfl):PE X (.Subscript a b pos) (tOp r ta tb):=by
 intro pins s Y H Q I h;exact Subscript_ (UK ha hb I h fun v u s2 x y H2 I2 rx ry q=>hr a b pins s2 Y H2 x y v u Q I2 rx ry q (hs _ _))
inductive Er(K:Frag)(x y:V)(H:Hp)(Q:VK):Prop where
 |mk (p:Addr)(xs:List V)(i:Int)(v:V)(_:x=.ref p)(_:y=.int i)(s:SqL K H p xs)(e:atI xs i=some v)(q:Q v H):Er K x y H Q
inductive Ep(K:Frag)(x y:V)(H:Hp)(Q:VK):Prop where
 |mk (p:Addr)(xs:List V)(i:Int)(v:V)(_:x=.ref p)(_:y=.int i)(s:SqT K H p xs)(e:atI xs i=some v)(q:Q v H):Ep K x y H Q
inductive Vg(x y:V)(H:Hp)(Q:VK):Prop where
 |mk (z:Str)(i:Int)(c:Nat)(_:x=.str z)(_:y=.int i)(s:z.length<=sizeLine)(e:atI z.cps.toList i=some c)(q:Q (.str ⟨#[c]⟩) H):Vg x y H Q
theorem bh:IxR X (Er X.K):=by
 intro value slice pins s Y H x y v u Q I rx ry h hs;obtain⟨p,xs,i,z,rfl,rfl,hq,he,q⟩:=h;cases rx;obtain⟨t,rfl⟩:=ry;obtain⟨its,r,pl,hz⟩:=I.list hq;obtain⟨j,h1,h2,h3,h4,h5⟩:=xh he;obtain⟨w,ew,rw'⟩:=r.get h2;have hl:=r.length;have hn:=om;have fin:EP X pins Y Q w s:=⟨z,H,I,rw',q⟩;by_cases h0:0<=i
 .have hj:i.toNat=j:=by
   rw[seqIndex_of h0 h5]at h1;exact Option.some.inj h1
  exact item_listR pl.isList h0 (by omega) (by rw[hj];simpa using ew) fin hs
 .have hj:(i+(its.toArray.size:Int)).toNat=j:=by
   rw[seqIndex_neg (by omega) h4]at h1;rw[size_toArray,<-hl];exact Option.some.inj h1
  exact subscriptTail_builtinR (x:=w) pl.isList.typeIs slot_list_getitem.lookup
   (wpAny_getItem_list_neg (Q:=fun r s'=>r=w/\EP X pins Y Q r s') pl.isList (by omega) (by rw[size_toArray]<;>omega) (by omega) (by rw[hj];simpa using ew) ⟨rfl,fin⟩) hs
theorem aA:IxR X (Ep X.K):=by
 intro value slice pins s Y H x y v u Q I rx ry h hs;obtain⟨p,xs,i,z,rfl,rfl,hq,he,q⟩:=h;cases rx;obtain⟨t,rfl⟩:=ry;obtain⟨its,r,pl,hz⟩:=I.tuple hq;obtain⟨j,h1,h2,h3,h4,h5⟩:=xh he;obtain⟨w,ew,rw'⟩:=r.get h2;have hl:=r.length;have hn:=om;have fin:EP X pins Y Q w s:=⟨z,H,I,rw',q⟩;exact subscriptTail_builtinR (x:=w) pl.typeIs slot_tuple_getitem.lookup
  (getItem_tuple (j:=j) (Q:=fun r s'=>r=w/\EP X pins Y Q r s') pl (by omega) (by omega) (by rw[size_toArray,<-hl];exact h1) (by simpa using ew) ⟨rfl,fin⟩) hs
theorem BD:IxR X Vg:=by
 intro value slice pins s Y H x y v u Q I rx ry h hs;obtain⟨z,i,c,rfl,rfl,hz,he,q⟩:=h;obtain⟨t,rfl⟩:=rx;obtain⟨t',rfl⟩:=ry;obtain⟨j,h1,h2,h3,h4,h5⟩:=xh he;have hl:z.cps.toList.length=z.length:=by simp[Str.length]
 rw[hl]at h1 h4 h5;have hn:=om;exact tail_any (typeIs_str s z t) slot_str_getitem.lookup (getItem_str (c:=c) (by
  have e1:decide (i < -(2^63:Int))=false:=decide_eq_false (by omega);have e2:decide (i>=2^63)=false:=decide_eq_false (by omega)
  rw[e1,e2,Bool.or_false]) (by rw[h1];simpa using h2) ⟨.str ⟨#[c]⟩,H,I.tok _,⟨_,rfl⟩,q⟩) hs
theorem By(its:List Value)(n j:Nat)(u:Value):Obj.mapSeq (·.setIfInBounds j u) {cls:=.type "list",data:=.seq its.toArray n}={cls:=.type "list",data:=.seq (its.set j u).toArray n}:=by
 simp[Obj.mapSeq]
theorem Inv.lst{pins:List (Addr×Obj)}{Y:St}{H:Hp}{s:Shared}{p:Addr}{xs:List V}(I:Inv X pins Y H s)(h:H p=some (.lst xs)):
  ∃(its:List Value)(n:Nat),Vals xs its/\s.heap.get? p=some {cls:=.type "list",data:=.seq its.toArray n}/\xs.length<=sizeLine:=by
 obtain⟨z,its,n,r,e⟩:=I.hok p _ h;exact⟨its,n,r,e,z⟩
theorem Inv.Tu{pins:List (Addr×Obj)}{Y:St}{H:Hp}{s:Shared}{p:Addr}{xs ys:List V}{its its':List Value}{n n':Nat}{f:Obj->Obj}(I:Inv X pins Y H s)(h:H p=some (.lst xs))
  (ho:s.heap.get? p=some {cls:=.type "list",data:=.seq its.toArray n}) (hf:f {cls:=.type "list",data:=.seq its.toArray n}={cls:=.type "list",data:=.seq its'.toArray n'}) (r:Vals ys its') (hz:ys.length<=sizeLine) (t:Nat):
  Inv X pins Y (upd H p (.lst ys)) {s with heap:=s.heap.update p f,toks:=t}:=by
 have e:(s.heap.update p f).get? p=some {cls:=.type "list",data:=.seq its'.toArray n'}:=by
  rw[Heap.get?_update_self f ho (by rw[hf]<;>rfl),hf]
 refine I.write (x:=p) (e:=p) (by rw[h];trivial) (.inl rfl) (fun b u hb q=>(Heap.get?_update_other _ _ (Ne.symm hb)).trans q) ⟨_,e⟩ ?_;exact⟨hz,its',n',r,e⟩
def Vf:V->V->V->Hp->(Hp->Prop)->Prop:=fun o i v H Q=>∃p xs k j,o=.ref p/\i=.int k/\H p=some (.lst xs)/\ixN xs.length k=some j/\Q (upd H p (.lst (xs.set j v)))
theorem set_list:WH X Vf:=by
 intro pins s Y H o i v ov iv u Q I ro ri rv h;obtain⟨p,xs,k,j,rfl,rfl,hp,hj,q⟩:=h;cases ro;obtain⟨t,rfl⟩:=ri;obtain⟨its,n,r,ho,hz⟩:=I.lst hp;obtain⟨h1,h2,h3,h4⟩:=Du hj;have hl:=r.length;have hn:=om;have I':Inv X pins Y (upd H p (.lst (xs.set j v))) {s with heap:=s.heap.update p (Obj.mapSeq (·.setIfInBounds j u))}:=
  I.Tu hp ho (By its n j u) (r.set rv j) (by rw[List.length_set];exact hz) s.toks
 by_cases h0:0<=k
 .have hk:k.toNat=j:=by
   rw[seqIndex_of h0 h4]at h1;exact Option.some.inj h1
  exact PySem.W.ki_setAt ho h0 (by omega) (by rw[size_toArray,<-hl];exact h4) (by rw[hk];exact⟨_,I',q⟩)
 .have hk:(k+(its.toArray.size:Int)).toNat=j:=by
   rw[seqIndex_neg (by omega) h3]at h1;rw[size_toArray,<-hl];exact Option.some.inj h1
  exact PySem.W.ki_setBack ho (by omega) (by rw[size_toArray,<-hl];exact h3) (by omega) (by rw[hk];exact⟨_,I',q⟩)
theorem vy(lo hi:Option Int)(n:Nat):(sliceBounds lo hi none n).1=((HT.sIx n 0 lo:Nat):Int)/\(sliceBounds lo hi none n).2.1=((HT.sIx n n hi:Nat):Int)/\(sliceBounds lo hi none n).2.2=1:=by
 refine⟨?_,?_,rfl⟩
 .cases lo with
  |none=>simp[sliceBounds,HT.sIx]
  |some i=>
   simp only[sliceBounds,HT.sIx,getD_none,show(1:Int)>0 by decide,if_true];by_cases h:i<0
   .simp only[h,if_true]<;>omega
   .simp only[h,if_false]<;>omega
 .cases hi with
  |none=>simp[sliceBounds,HT.sIx]
  |some i=>
   simp only[sliceBounds,HT.sIx,getD_none,show(1:Int)>0 by decide,if_true];by_cases h:i<0
   .simp only[h,if_true]<;>omega
   .simp only[h,if_false]<;>omega
theorem tG(its:List Value)(lo hi:Option Int):slicePick its.toArray lo hi none=((its.drop (HT.sIx its.length 0 lo)).take (HT.sIx its.length its.length hi-HT.sIx its.length 0 lo)).toArray:=by
 obtain⟨h1,h2,h3⟩:=vy lo hi its.toArray.size;unfold slicePick;rw[h1,h2,h3];simp only[sliceRange_one,pick_run,size_toArray]<;>rfl
def Ve(K:Frag):V->Option Int->Option Int->Hp->VK->Prop:=fun x lo hi H Q=>∃a xs,x=.ref a/\SqL K H a xs/\∀p,H p=none->Q (.ref p) (upd H p (.lst (m8 xs lo hi)))
theorem CZ:SlR X (Ve X.K):=by
 intro pins s Y H x v vl vu lo hi sl Q I rx hs pl pu h;obtain⟨a,xs,rfl,hx,q⟩:=h;cases rx;obtain⟨its,r,ht,hz⟩:=I.list hx;have hlen:=r.length;refine⟨"list",_,slot_list_getitem.lookup,ht.isList.typeIs,?_⟩;refine wpAny_getItem_list_slice ht.isList hs pl pu .none (by simp) ?_ (by rw[size_toArray]<;>omega);rw[tG,<-hlen];refine⟨.ref s.heap.objs.size,_,I.laid (t':=s.toks) (o:=.lst (m8 xs lo hi)) (fun b ob q=>Heap.get?_push_of_some _ q) (le_refl _) ?_,rfl,q _ (I.hok.fresh (le_refl _))⟩;exact⟨le_trans (o7 xs lo hi) hz,_,0,(r.drop (HT.sIx xs.length 0 lo)).take (HT.sIx xs.length xs.length hi-HT.sIx xs.length 0 lo),Heap.get?_push_size _ rfl⟩
def oX:V->Bool
 |.non=>true
 |.bl _=>true
 |.int _=>true
 |.str _=>true
 |_=>false
def eqV:V->V->Bool
 |.non,.non=>true
 |.bl a,.bl b=>a==b
 |.bl a,.int b=>(if a then 1 else 0)==b
 |.int a,.bl b=>a==(if b then 1 else 0)
 |.int a,.int b=>a==b
 |.str a,.str b=>a==b
 |_,_=>false
theorem Uw{A:Around}{s:Shared}{y x:V}{u v:Value}(ry:RelV y u)(rx:RelV x v)(fy:oX y=true)(fx:oX x=true):SeqAt.EqAt A s u v (eqV y x):=by
 cases y with
 |non=>
  cases ry;cases x with
  |non=>cases rx;exact SeqAt.EqAt.same _
  |bl b=>cases rx;exact SeqAt.EqAt.none_bool b
  |int b=>obtain⟨t,rfl⟩:=rx;exact SeqAt.EqAt.none_int b t
  |str b=>obtain⟨t,rfl⟩:=rx;exact SeqAt.EqAt.none_str b t
  |_=>exact absurd (show false=true from fx) Bool.false_ne_true
 |bl a=>
  cases ry;cases x with
  |non=>cases rx;exact SeqAt.EqAt.bool_none a
  |bl b=>cases rx;exact SeqAt.EqAt.bool_bool a b
  |int b=>obtain⟨t,rfl⟩:=rx;exact SeqAt.EqAt.bool_int a b t
  |str b=>obtain⟨t,rfl⟩:=rx;exact SeqAt.EqAt.bool_str a b t
  |_=>exact absurd (show false=true from fx) Bool.false_ne_true
 |int a=>
  obtain⟨t',rfl⟩:=ry;cases x with
  |non=>cases rx;exact SeqAt.EqAt.int_none a t'
  |bl b=>cases rx;exact SeqAt.EqAt.int_bool a t' b
  |int b=>obtain⟨t,rfl⟩:=rx;exact SeqAt.EqAt.int_int a t' b t
  |str b=>obtain⟨t,rfl⟩:=rx;exact SeqAt.EqAt.int_str a t' b t
  |_=>exact absurd (show false=true from fx) Bool.false_ne_true
 |str a=>
  obtain⟨t',rfl⟩:=ry;cases x with
  |non=>cases rx;exact SeqAt.EqAt.str_none a t'
  |bl b=>cases rx;exact SeqAt.EqAt.str_bool a t' b
  |int b=>obtain⟨t,rfl⟩:=rx;exact SeqAt.EqAt.str_int a t' b t
  |str b=>obtain⟨t,rfl⟩:=rx;exact SeqAt.EqAt.str_str a t' b t
  |_=>exact absurd (show false=true from fx) Bool.false_ne_true
 |_=>exact absurd (show false=true from fy) Bool.false_ne_true
def eqU(x:V)(u:Value):Bool:=match u with
 |.none=>eqV .non x
 |.bool b=>eqV (.bl b) x
 |.int i _=>eqV (.int i) x
 |.str z _=>eqV (.str z) x
 |_=>false
theorem Jh{x y:V}{u:Value}(r:RelV y u)(f:oX y=true):eqU x u=eqV y x:=by
 cases y with
 |non=>cases r;rfl
 |bl b=>cases r;rfl
 |int i=>obtain⟨t,rfl⟩:=r;rfl
 |str z=>obtain⟨t,rfl⟩:=r;rfl
 |_=>exact absurd (show false=true from f) Bool.false_ne_true
theorem nk{x:V}:∀{xs:List V}{us:List Value},Vals xs us->xs.all oX=true->us.any (eqU x)=xs.any fun y=>eqV y x
 |_,_,.nil,_=>rfl
 |y::xs,u::us,.cons r t,f=>by
  rw[all_cons,Bool.and_eq_true]at f;rw[any_cons,any_cons,Jh r f.1,nk t f.2]
theorem j9{A:Around}{s:Shared}{x:V}{v:Value}(rx:RelV x v)(fx:oX x=true):∀{xs:List V}{us:List Value},Vals xs us->xs.all oX=true->∀u∈us,SeqAt.EqAt A s u v (eqU x u)
 |_,_,.nil,_=>fun u hu=>by cases hu
 |y::xs,u::us,.cons r t,f=>fun u' hu=>by
  rw[all_cons,Bool.and_eq_true]at f;rcases mem_cons.mp hu with rfl|hu
  .rw[Jh r f.1];exact Uw r rx f.1 fx
  .exact j9 rx fx t f.2 u' hu
def inV(x:V)(xs:List V):Bool:=xs.any fun y=>eqV y x
def rIn(K:Frag)(neg:Bool):R2:=fun x y H Q=>∃p xs,y=.ref p/\(SqL K H p xs\/SqT K H p xs)/\oX x=true/\xs.all oX=true/\Q (.bl (if neg then !inV x xs else inV x xs)) H
theorem iB:OpR X (compareOp .In) (rIn X.K false):=by
 intro pins s Y H x y v u Q I rx ry h;obtain⟨p,xs,rfl,hq,fx,fs,q⟩:=h;cases ry;rcases hq with hq|hq
 .obtain⟨its,r,pl,hz⟩:=I.list hq;refine SeqAt.in_listAt (eqU x) pl.isList (fun w hw=>j9 rx fx r fs w (by simpa using hw)) ⟨.bl _,H,I,rfl,?_⟩;rw[show its.toArray.any (eqU x)=its.any (eqU x) by simp,nk r fs];exact q
 .obtain⟨its,r,pl,hz⟩:=I.tuple hq;refine SeqAt.in_tupleAt (eqU x) pl (fun w hw=>j9 rx fx r fs w (by simpa using hw)) ⟨.bl _,H,I,rfl,?_⟩;rw[show its.toArray.any (eqU x)=its.any (eqU x) by simp,nk r fs];exact q
theorem mH:OpR X (compareOp .NotIn) (rIn X.K true):=by
 intro pins s Y H x y v u Q I rx ry h;obtain⟨p,xs,rfl,hq,fx,fs,q⟩:=h;cases ry;rcases hq with hq|hq
 .obtain⟨its,r,pl,hz⟩:=I.list hq;refine SeqAt.notIn_listAt (eqU x) pl.isList (fun w hw=>j9 rx fx r fs w (by simpa using hw)) ⟨.bl _,H,I,rfl,?_⟩;rw[show its.toArray.any (eqU x)=its.any (eqU x) by simp,nk r fs];exact q
 .obtain⟨its,r,pl,hz⟩:=I.tuple hq;refine SeqAt.notIn_tupleAt (eqU x) pl (fun w hw=>j9 rx fx r fs w (by simpa using hw)) ⟨.bl _,H,I,rfl,?_⟩;rw[show its.toArray.any (eqU x)=its.any (eqU x) by simp,nk r fs];exact q
theorem aP:iQ X (.builtin "len") (fun xs H Q=>∃p ys,xs=[.ref p]/\(SqL X.K H p ys\/SqT X.K H p ys)/\Q (.int ys.length) H):=by
 intro pins s Y H xs us Q I r h;obtain⟨p,ys,rfl,hq,q⟩:=h;obtain⟨u,rfl,rx⟩:=vals1 r;cases rx;have hn:=om;rcases hq with hq|hq
 .obtain⟨its,r',pl,hz⟩:=I.list hq;have hlen:=r'.length;exact Calls.call_len_list pl.isList (by simp only[size_toArray]<;>omega) ⟨.int ys.length,H,I.tok _,⟨s.toks+1,by rw[size_toArray,hlen]⟩,q⟩
 .obtain⟨its,r',pl,hz⟩:=I.tuple hq;have hlen:=r'.length;exact len_tuple pl (by simp only[size_toArray]<;>omega) ⟨.int ys.length,H,I.tok _,⟨s.toks+1,by rw[size_toArray,hlen]⟩,q⟩
theorem fj:iQ X (.builtin "len") (fun xs H Q=>∃z,xs=[.str z]/\z.length<=sizeLine/\Q (.int z.length) H):=by
 intro pins s Y H xs us Q I r h;obtain⟨z,rfl,hz,q⟩:=h;obtain⟨u,rfl,t,rfl⟩:=vals1 r;have hn:=om;exact len_str (by omega) ⟨.int z.length,H,I.tok _,⟨_,rfl⟩,q⟩
theorem tU:iQ X (.type "tuple") (fun xs H Q=>∃p ys,xs=[.ref p]/\((SqL X.K H p ys/\∀l,H l=none->Q (.ref l) (upd H l (.tup ys)))\/(SqT X.K H p ys/\Q (.ref p) H))):=by
 intro pins s Y H xs us Q I r h;obtain⟨p,ys,rfl,h⟩:=h;obtain⟨u,rfl,rx⟩:=vals1 r;cases rx;rcases h with⟨hq,q⟩|⟨hq,q⟩
 .obtain⟨its,r',pl,hz⟩:=I.list hq;have hlen:=r'.length;refine call_tuple_list pl.isList (fun h' kp=>?_) (by simp only[size_toArray]<;>omega);have I1:Inv X pins Y H {s with heap:=h'}:=I.kept (t':=s.toks) kp;have I2:Inv X pins Y (upd H h'.objs.size (.tup ys)) {s with heap:=h'.push {cls:=.type "tuple",data:=.seq its.toArray}}:=
   I1.laid (t':=s.toks) (fun b o e=>Heap.get?_push_of_some _ e) (le_refl _) (show b9 X.prog X.w _ _ _ (.tup ys)from⟨hz,its,r',IsTup.new _ _⟩)
  exact⟨.ref h'.objs.size,_,I2,rfl,q _ (I1.hok.fresh (le_refl _))⟩
 .obtain⟨its,r',pl,hz⟩:=I.tuple hq;exact call_tuple_same pl ⟨.ref p,H,I,rfl,q⟩
def tyV(K:Frag)(T:String)(x:V)(H:Hp):Prop:=match x with
 |.str _=>T="str"
 |.int _=>T="int"
 |.ref p=>(T="list"/\∃xs,SqL K H p xs)\/(T="tuple"/\∃o,K.lookup p=some o/\o.cls=.type "tuple"/\o.dict=none) \/
   (T="dict"/\((∃kvs,H p=some (.dK kvs))\/∃kvs,H p=some (.dT kvs)))\/(T="set"/\∃S n,H p=some (.set S n))
 |_=>False
theorem F4{pins:List (Addr×Obj)}{Y:St}{H:Hp}{s:Shared}{T:String}{x:V}{v:Value}(I:Inv X pins Y H s)(r:RelV x v)(ty:tyV X.K T x H):
  s.TypeIs v T/\∀a,v=.ref a->∃ob,s.heap.get? a=some ob/\ob.dict=none:=by
 cases x with
 |str z=>
  obtain⟨t,rfl⟩:=r;cases(show T="str" from ty);exact⟨typeIs_str s z t,fun _ e=>nomatch e⟩
 |int i=>
  obtain⟨t,rfl⟩:=r;cases(show T="int" from ty);exact⟨typeIs_int s i t,fun _ e=>nomatch e⟩
 |ref p=>
  cases r;rcases ty with⟨rfl,xs,hq⟩|⟨rfl,o,hk,hc,hd⟩|⟨rfl,hk⟩|⟨rfl,S,n,hk⟩
  .obtain⟨its,_,pl,_⟩:=I.list hq;refine⟨pl.isList.typeIs,fun a e=>?_⟩;cases e;obtain⟨o,n,e,c,hd,_⟩:=pl;exact⟨o,e,hd⟩
  .refine⟨⟨o,I.kIn p o hk,hc⟩,fun a e=>?_⟩;cases e;exact⟨o,I.kIn _ o hk,hd⟩
  .have z:∃o,s.heap.get? p=some o/\o.ExactDict:=by
    rcases hk with⟨kvs,hk⟩|⟨kvs,hk⟩
    .obtain⟨_,_,_,_,o,_,_,e,ex,_⟩:=I.hok p _ hk;exact⟨o,e,ex⟩
    .obtain⟨_,_,_,_,o,_,_,e,ex,_⟩:=I.hok p _ hk;exact⟨o,e,ex⟩
   obtain⟨o,e,ex⟩:=z;refine⟨⟨o,e,ex.1⟩,fun a e2=>?_⟩;cases e2;exact⟨o,e,ex.2.1⟩
  .obtain⟨o,_,_,_,e,ex,_⟩:=I.hok p _ hk;refine⟨⟨o,e,ex.1⟩,fun a e2=>?_⟩;cases e2;exact⟨o,e,ex.2.1⟩
 |_=>exact False.elim ty
def WS(K:Frag)(T:String)(r:V->List V->Hp->VK->Prop)(to:TE):TE:=fun Y H Q=>to Y H fun x H1=>tyV K T x H1/\r x [] H1 Q
def tBM(K:Frag)(T:String)(r:V->List V->Hp->VK->Prop)(to:TE)(t:TA):TE:=fun Y H Q=>to Y H fun x H1=>tyV K T x H1/\t Y H1 fun xs H2=>r x xs H2 Q
variable{o e:Expr}{es:List Expr}{to:TE}{t:TA}{name:Str}{apos gS:Pos}{T id:String}{r:V->List V->Hp->VK->Prop}
theorem i7(pa:PlainAttrs T)(slot:Slot T name id)(hty:typeOf (.builtin id)=pure (.type "method_descriptor"))(hm:MtR X id r)(ho:PE X o to)
  (Ja:attributeBase o name X.env (eval o X.env)=eval o X.env:=by rfl) (yL:(apos.endLine==gS.line)=true:=by rfl):PE X (.Call (.Attribute o name apos) [] [] gS) (WS X.K T r to):=by
 intro pins s Y H Q I h;refine wpAny_Call_method0_late Ja yL (thn (ho pins s Y H _ I h) fun v s1 hZ=>?_);obtain⟨x,H1,I1,r1,ty,q1⟩:=hZ;obtain⟨h1,h2⟩:=F4 I1 r1 ty;exact⟨T,id,pa,slot,hty,h1,h2,Calls.callWith_builtin rfl (PySem.evalArgs_none (hm pins s1 Y H1 x [] v [] Q I1 r1 .nil q1))⟩
theorem iA(pa:PlainAttrs T)(slot:Slot T name id)(hty:typeOf (.builtin id)=pure (.type "method_descriptor"))(hm:MtR X id r)(ho:PE X o to)(ha:PA X (e::es) t)
  (Ja:attributeBase o name X.env (eval o X.env)=eval o X.env:=by rfl)
  (Yh:((backTo gS (starEach (e::es) X.env)).all (fun x=>!x.1)&&(backToKw gS (keywordEach [] X.env)).all (fun x=>x.1.isSome)
   && decide ((e::es).length+([]:List Keyword).length+(if ([]:List Keyword).isEmpty then 0 else 1)<30))=true:=by rfl)
  (yL:(apos.endLine==gS.line)=true:=by rfl) (hs:starEach (e::es) X.env=(false,eval e X.env)::starEach es X.env:=by rfl) (Uc:(backTo gS (starEach es X.env)).any (·.1)=false:=by rfl):
  PE X (.Call (.Attribute o name apos) (e::es) [] gS) (tBM X.K T r to t):=by
 intro pins s Y H Q I h;refine wpAny_Call_method_late Ja Yh yL rfl (thn (ho pins s Y H _ I h) fun v s1 hZ=>?_);obtain⟨x,H1,I1,r1,ty,q1⟩:=hZ;obtain⟨h1,h2⟩:=F4 I1 r1 ty;refine⟨T,id,pa,slot,hty,h1,h2,?_⟩;have hA:=ha gS pins s1 Y H1 _ I1 q1;rw[hs]at hA ⊢;refine Calls.callWith_builtin (by show(false||(backTo gS (starEach es X.env)).any (·.1))=false;rw[Uc]<;>rfl) (Calls.evalArgs_plain ?_);exact thn hA fun us s2 ⟨vs,H2,I2,r2,q2⟩=>hm pins s2 Y H2 x vs v us Q I2 r1 r2 q2
end
def MtM(X:Cx)(id:String)(r:V->List V->Hp->VK->Prop):Prop:=
 ∀(pins:List (Addr×Obj))(s:Shared)(Y:St)(H:Hp)(x:V)(xs:List V)(v:Value)(us:List Value)(Q:VK),Inv X pins Y H s->RelV x v->Vals xs us->r x xs H Q->
  wpAny (model X.prog X.w) X.A (call (.builtin id) (v::us)) (EP X pins Y Q) X.xe s
theorem Vals.one:∀{x:V}{us:List Value},Vals [x] us->∃u,us=[u]/\RelV x u
 |_,_,.cons r .nil=>⟨_,rfl,r⟩
theorem Vals.two:∀{x y:V}{us:List Value},Vals [x,y] us->∃u v,us=[u,v]/\RelV x u/\RelV y v
 |_,_,_,.cons r (.cons q .nil)=>⟨_,_,rfl,r,q⟩
theorem Vals.zero:∀{us:List Value},Vals [] us->us=[]
 |_,.nil=>rfl
theorem Vals.dropLast{xs:List V}{us:List Value}(h:Vals xs us):Vals xs.dropLast us.dropLast:=by
 induction h with
 |nil=>exact .nil
 |cons r t ih=>
  cases t with
  |nil=>exact .nil
  |cons q t'=>exact .cons r ih
theorem Vals.rep{xs:List V}{us:List Value}(h:Vals xs us):∀k:Nat,Vals (List.replicate k xs).flatten (List.replicate k us).flatten
 |0=>.nil
 |k+1=>by
  rw[replicate_succ,replicate_succ,flatten_cons,flatten_cons];exact Vals.append h (Vals.rep h k)
theorem Cb{I:Type}(l:List I):l.eraseIdx (l.length-1)=l.dropLast:=by
 induction l with
 |nil=>rfl
 |cons a r ih=>
  cases r with
  |nil=>rfl
  |cons b r=>
   have e:(a::b::r).length-1=((b::r).length-1)+1:=by
    have h1:(a::b::r).length=r.length+2:=rfl;have h2:(b::r).length=r.length+1:=rfl;omega
   rw[e,List.eraseIdx_cons_succ,ih]
   all_goals rfl
theorem foldl_rep(its:List Value):∀(k:Nat)(acc:List Value),
  List.foldl (fun x1 x2=>x1++x2) acc.toArray (List.replicate k its.toArray)=(acc++(List.replicate k its).flatten).toArray
 |0,acc=>by simp
 |k+1,acc=>by
  have e:acc.toArray++its.toArray=(acc++its).toArray:=by simp
  have e2:(acc++its)++(List.replicate k its).flatten=acc++(List.replicate (k+1) its).flatten:=by
   rw[replicate_succ,flatten_cons,append_assoc]
  rw[<-e2,<-foldl_rep its k (acc++its),<-e,replicate_succ,List.foldl_cons]
section
variable{X:Cx}{pins:List (Addr×Obj)}{Y:St}{H:Hp}{s:Shared}{l b:Addr}{xs ys zs:List V}
theorem Inv.Tv{its its':List Value}{n:Nat}{f:Array Value->Array Value}{t':Nat}(I:Inv X pins Y H s)(hH:H l=some (.lst xs))
  (e:s.heap.get? l=some {cls:=.type "list",data:=.seq its.toArray n}) (hf:f its.toArray=its'.toArray) (hv:Vals ys its') (hz:ys.length<=sizeLine):
  Inv X pins Y (upd H l (.lst ys)) {s with heap:=s.heap.update l (Obj.mapSeq f),toks:=t'}:=by
 have q:=PySem.IsL.update e f;rw[hf]at q;refine I.write (x:=l) (e:=l) (by rw[hH];exact trivial) (.inl rfl) (fun b' u hb hu=>(Heap.get?_update_other s.heap (Obj.mapSeq f) (Ne.symm hb)).trans hu) ⟨_,q⟩ ?_;exact⟨hz,its',_,hv,q⟩
theorem Inv.VG{its:List Value}{t':Nat}(I:Inv X pins Y H s)(hv:Vals ys its)(hz:ys.length<=sizeLine):
  Inv X pins Y (upd H s.heap.objs.size (.lst ys)) {s with heap:=s.heap.push {cls:=.type "list",data:=.seq its.toArray},toks:=t'}:=
 I.laid (fun _ _ q=>Heap.get?_push_of_some _ q) (le_refl _) ⟨hz,its,0,hv,Heap.get?_push_size _ rfl⟩
theorem Inv.fresh(I:Inv X pins Y H s):H s.heap.objs.size=none:=I.hok.fresh (le_refl _)
theorem Inv.BB(I:Inv X pins Y H s)(hH:H l=some (.lst xs)):xs.length<=sizeLine/\∃(its:List Value)(n:Nat),Vals xs its/\xs.length=its.length/\s.heap.get? l=some {cls:=.type "list",data:=.seq its.toArray n}:=by
 obtain⟨z,its,n,r,e⟩:=I.hok l _ hH;exact⟨z,its,n,r,r.length,e⟩
theorem ym{n:Nat}(h:n<=sizeLine):Builtin.List.listTooLong n=false:=by
 unfold Builtin.List.listTooLong;exact decide_eq_false (by omega)
end
section
variable{X:Cx}
inductive vQ(x:V)(vs:List V)(H:Hp)(Q:VK):Prop where
 |mk (l:Addr)(xs:List V)(y:V)(_:x=.ref l)(_:vs=[y])(_:H l=some (.lst xs))(s:xs.length<sizeLine)(q:Q .non (upd H l (.lst (xs++[y])))):vQ x vs H Q
theorem eN:MtM X "list.append" vQ:=by
 intro pins s Y H x vs v us Q I rx rv h;obtain⟨l,xs,y,rfl,rfl,hH,hz,q⟩:=h;cases rx;obtain⟨u,rfl,ru⟩:=rv.one;obtain⟨z,its,n,r,hl,e⟩:=I.BB hH;refine call_meets F.slot_list_append ⟨_,e,rfl⟩ F.entry_list_append (F.args_list_append_2 _ _) (PySem.list_append l its.toArray n u (by rw[size_toArray];omega)) ⟨e,?_⟩;refine⟨.non,_,I.Tv (its':=its++[u]) hH e (by simp) (r.append (.cons ru .nil)) ?_,rfl,q⟩;rw[length_append,List.length_singleton];omega
def L7:V->List V->Hp->VK->Prop:=fun x vs H Q=>∃l b xs zs,x=.ref l/\vs=[.ref b]/\H l=some (.lst xs)/\H b=some (.lst zs)/\xs.length+zs.length<=sizeLine/\Q .non (upd H l (.lst (xs++zs)))
theorem EK:MtM X "list.extend" L7:=by
 intro pins s Y H x vs v us Q I rx rv h;obtain⟨l,b,xs,zs,rfl,rfl,hH,hB,hz,q⟩:=h;cases rx;obtain⟨u,rfl,ru⟩:=rv.one;cases ru;obtain⟨z,its,n,r,hl,e⟩:=I.BB hH;obtain⟨z2,tN,n2,r2,hl2,e2⟩:=I.BB hB;have hsz:its.toArray.size+tN.toArray.size<=sizeLine:=by rw[size_toArray,size_toArray];omega
 have IX:¬(!its.toArray.isEmpty&&Builtin.List.listTooLong (its.toArray.size+tN.toArray.size))=true:=by
  rw[ym hsz,Bool.and_false];exact Bool.false_ne_true
 refine call_meets F.slot_list_extend ⟨_,e,rfl⟩ F.entry_list_extend (F.args_list_extend_2 _ _)
  (AutoSeq1.list_extend_list_list_0 l its.toArray n b tN.toArray n2 IX (by rw[size_toArray];omega) (by omega)) ⟨e,e2,?_⟩
 refine⟨.non,_,I.Tv (its':=its++tN) hH e (by simp) (r.append r2) ?_,rfl,q⟩;rw[length_append];omega
def W8:V->List V->Hp->VK->Prop:=fun x vs H Q=>∃l xs y,x=.ref l/\vs=[]/\H l=some (.lst xs)/\xs[xs.length-1]?=some y/\Q y (upd H l (.lst xs.dropLast))
theorem Tq:MtM X "list.pop" W8:=by
 intro pins s Y H x vs v us Q I rx rv h;obtain⟨l,xs,y,rfl,rfl,hH,hy,q⟩:=h;cases rx;have hus:=rv.zero;subst hus;obtain⟨z,its,n,r,hl,e⟩:=I.BB hH;obtain⟨u,hu,ru⟩:=r.get hy;have hy':its.toArray[its.toArray.size-1]?=some u:=by
  show its.toArray[its.length-1]?=some u;rw[<-Array.getElem?_toList,<-hl];exact hu
 refine call_meets F.slot_list_pop ⟨_,e,rfl⟩ F.entry_list_pop (F.args_list_pop_1 _) (MeetsSeq.list_pop_last l its.toArray n u hy' (by rw[size_toArray];omega)) ⟨e,?_⟩;refine⟨y,_,I.Tv (its':=its.dropLast) hH e ?_ r.dropLast ?_,ru,q⟩
 .show its.toArray.eraseIdxIfInBounds (its.toArray.size-1)=its.dropLast.toArray;rw[size_toArray,List.eraseIdxIfInBounds_toArray,Cb]
 .rw[List.length_dropLast];omega
def Xa:R2:=fun x y H Q=>∃l b xs zs,x=.ref l/\y=.ref b/\H l=some (.lst xs)/\H b=some (.lst zs)/\xs.length+zs.length<=sizeLine/\∀p,H p=none->Q (.ref p) (upd H p (.lst (xs++zs)))
theorem HV:OpR X (binaryOp .Add) Xa:=by
 intro pins s Y H x y v u Q I rx ry h;obtain⟨l,b,xs,zs,rfl,rfl,hH,hB,hz,q⟩:=h;cases rx;cases ry;obtain⟨z,its,n,r,hl,e⟩:=I.BB hH;obtain⟨z2,tN,n2,r2,hl2,e2⟩:=I.BB hB;refine PySem.P.add_list e e2 ?_ (by rw[size_toArray,size_toArray];omega);have ea:its.toArray++tN.toArray=(its++tN).toArray:=by simp
 rw[ea];exact⟨.ref _,_,I.VG (t':=s.toks) (r.append r2) (by rw[length_append];omega),rfl,q _ I.fresh⟩
def W7:R2:=fun x y H Q=>∃l k xs,x=.ref l/\y=.int k/\H l=some (.lst xs)/\-(2^63)<=k/\k<2^63/\xs.length*k.toNat<=sizeLine/\
 ∀p,H p=none->Q (.ref p) (upd H p (.lst (List.replicate k.toNat xs).flatten))
theorem len_rep{I:Type}(xs:List I)(k:Nat):(List.replicate k xs).flatten.length=k*xs.length:=by
 induction k with
 |zero=>simp
 |succ k ih=>rw[replicate_succ,flatten_cons,length_append,ih,Nat.succ_mul,add_comm]
theorem RY:OpR X (binaryOp .Mult) W7:=by
 intro pins s Y H x y v u Q I rx ry h;obtain⟨l,k,xs,rfl,rfl,hH,h1,h2,hz,q⟩:=h;cases rx;obtain⟨t,rfl⟩:=ry;obtain⟨z,its,n,r,hl,e⟩:=I.BB hH;have hlen:its.toArray.size*k.toNat<=sizeLine:=by rw[size_toArray,<-hl];exact hz
 have Yp:¬its.toArray.size*k.toNat>(2^63-1)/8:=by
  have:(sizeLine:Nat)<=(2^63-1)/8:=by decide
  omega
 have Yf:¬(!Builtin.List.listFitsIndex k)=true:=by
  rw[fitsIndex_both h1 h2];exact Bool.false_ne_true
 have IX:¬Builtin.List.listTooLong (its.toArray.size*k.toNat)=true:=by
  rw[ym hlen];exact Bool.false_ne_true
 have X0:List.foldl (fun x1 x2=>x1++x2) #[] (List.replicate (if its.toArray.isEmpty=true then 0 else k.toNat) its.toArray)=(List.replicate k.toNat its).flatten.toArray:=by
  have f0:∀m:Nat,List.foldl (fun x1 x2=>x1++x2) #[] (List.replicate m its.toArray)=(List.replicate m its).flatten.toArray:=fun m=>by
   have:=foldl_rep its m [];rw[nil_append]at this;exact this
  rw[f0];cases its with
  |nil=>simp
  |cons a r'=>rw[if_neg (by simp)]
 refine wpAny_binaryOp_repeat_ref (T:="list") (U:="int") (by decide) ⟨_,e,rfl⟩ (fun s'=>typeIs_int s' k t) noFill_list_mul F.fills_int_mul F.slot_int_rmul repeat_list F.slot_int_index.lookup
  (call_meets F.slot_int_rmul (typeIs_int s k t) F.entry_int_rmul (F.args_int_rmul_2 _ _) (int___rmul___int_list k t l its.toArray n)
   ⟨e,rfl,⟨_,e,rfl⟩,call_meets F.slot_list_mul ⟨_,e,rfl⟩ F.entry_list_mul (F.args_list_mul_2 _ _) (AutoListH.list___mul___list_int_3 l its.toArray n k t Yf Yp IX) ⟨e,?_⟩⟩)
 rw[X0];exact⟨.ref _,_,I.VG (t':=s.toks) (r.rep k.toNat) (by rw[len_rep,mul_comm];exact hz),rfl,q _ I.fresh⟩
end
section
variable{prog:Program}{w:World}{A:Around}{E:Value->Shared->Prop}{s:Shared}
end
theorem Vals.ints:∀{ns:List Int}{us:List Value},Vals (ns.map V.int) us->IntsAre us ns
 |[],us,h=>by
  rw[map_nil]at h;cases h;exact IntsAre.nil
 |n::ns,us,h=>by
  rw[map_cons]at h;cases h with
  |cons r t=>
   obtain⟨k,rfl⟩:=r;exact IntsAre.cons n k (Vals.ints t)
theorem md:∀{us:List Value}{ns:List Int},IntsAre us ns->Vals (ns.map V.int) us
 |_,_,.nil=>by rw[map_nil];exact Paired.nil
 |_,_,.cons n t h=>by rw[map_cons];exact Paired.cons (show RelV (V.int n) (Value.int n t)from⟨t,rfl⟩) (md h)
theorem Vals.RM{a:Addr}{us:List Value}(r:Vals [V.ref a] us):us=[Value.ref a]:=by
 cases r with
 |cons r t=>
  cases t;cases r;rfl
section
variable{prog:Program}{w:World}{A:Around}{E:Value->Shared->Prop}{s:Shared}{l:Addr}{its:List Value}{ns:List Int}{Q:Value->Shared->Prop}
theorem LL(hh:A.handled=none)(hl:s.heap.IsList l its.toArray)(hi:IntsAre its ns)
  (h:∀h' tk t',(∀b o,s.heap.get? b=some o->h'.get? b=some o)->Q (.int ns.sum t') {s with heap:=h',toks:=tk}):wpAny (model prog w) A (call (.builtin "sum") [.ref l]) Q E s:=by
 obtain⟨xs,e⟩:=hi.allInts.items;have hn:numsOf (intItems xs).toList=ns:=by rw[<-e];exact hi.numsOf
 rw[nums_intItems]at hn;rw[e]at hl;refine PySem.sum_intListG hh hl fun h' tk t' hk=>?_
 have:=h h' tk t' hk;rw[preSum_eq,take_of_length_le (by simp),hn];exact this
theorem My(hh:A.handled=none)(hl:s.heap.IsList l its.toArray)(hi:IntsAre its ns)(hne:0<ns.length)
  (h:∀h' tk M t',(∀b o,s.heap.get? b=some o->h'.get? b=some o)->M∈ns->(∀a,a∈ns->a<=M)->Q (.int M t') {s with heap:=h',toks:=tk}):wpAny (model prog w) A (call (.builtin "max") [.ref l]) Q E s:=by
 obtain⟨xs,e⟩:=hi.allInts.items;have hn:numsOf (intItems xs).toList=ns:=by rw[<-e];exact hi.numsOf
 rw[nums_intItems]at hn;subst hn;rw[e]at hl;have hsz:0<xs.size:=by simpa using hne
 refine PySem.max_intList hh hl hsz fun v h' tk hv hk=>?_
 obtain⟨t,rfl⟩:=intItems_at hv;obtain⟨h1,h2⟩:=argBest_gt (numAt xs) (xs.size-1);refine h h' tk _ t hk ?_ fun a ha=>?_
 .rw[numAt_eq];exact PySem.getD_mem (by rw[length_map,Array.length_toList];omega)
 .obtain⟨j,hj,rfl⟩:=mem_getD ha;rw[length_map,Array.length_toList]at hj;rw[<-numAt_eq];exact h2 j (by omega)
end
section
variable{X:Cx}
def W4(K:Frag):List V->Hp->VK->Prop:=fun vs H Q=>∃(a:Addr)(ns:List Int),vs=[V.ref a]/\SqL K H a (ns.map V.int)/\Q (.int ns.sum) H
def W9(K:Frag):List V->Hp->VK->Prop:=fun vs H Q=>∃(a:Addr)(ns:List Int),vs=[V.ref a]/\SqL K H a (ns.map V.int)/\0<ns.length/\∀m,m∈ns->(∀y,y∈ns->y<=m)->Q (.int m) H
theorem Ju(hc:X.calm=true):iQ X (.builtin "sum") (W4 X.K):=by
 intro pins s Y H vs us Q I r h;obtain⟨a,ns,rfl,hs,q⟩:=h;obtain⟨its,rv,hl,_⟩:=I.list hs;rw[Vals.RM r];exact LL (I.ok.hd hc) hl.isList rv.ints fun h' tk t' hk=>⟨.int _,H,I.kept hk,⟨_,rfl⟩,q⟩
theorem Jv(hc:X.calm=true):iQ X (.builtin "max") (W9 X.K):=by
 intro pins s Y H vs us Q I r h;obtain⟨a,ns,rfl,hs,hne,q⟩:=h;obtain⟨its,rv,hl,_⟩:=I.list hs;rw[Vals.RM r];exact My (I.ok.hd hc) hl.isList rv.ints hne fun h' tk m t' hk h1 h2=>⟨.int _,H,I.kept hk,⟨_,rfl⟩,q m h1 h2⟩
end
abbrev Lz(h:Heap)(c:Addr)(v:Option Value):Prop:=h.IsCell c v
def W3(scope sc:Scope):Scope:=
 {scope with names:=scope.names.map fun(n,k)=>if (k==.free&&sc.kind==.function&&sc.names.lookup n==some .cell)then(n,.cell)else(n,k)}
def bR(cells:List (Str×Addr)):List (Str×NameKind)->List (Str×Addr)->List (Str×Addr)
 |[],acc=>acc
 |(n,k)::r,acc=>if k==.free then bR cells r ((n,(cells.lookup n).getD 0)::acc)else bR cells r acc
theorem ng(env:Env)(f:Str×NameKind->List (Str×Addr)->Sem (ForInStep (List (Str×Addr))))
  (hf:∀n k c,f (n,k) c=if k==.free then(do let a <-cellOf env n;pure (.yield ((n,a)::c)))else pure (.yield c)):
  ∀(names:List (Str×NameKind))(acc:List (Str×Addr)),(∀y∈names,y.2=.free->∃c,env.cells.lookup y.1=some c)->forIn names acc f=pure (bR env.cells names acc)
 |[],acc,_=>by rw[forIn_nil];rfl
 |(n,k)::r,acc,h=>by
  rw[forIn_cons,hf];have ih:=fun acc=>ng env f hf r acc fun y hy=>h y (mem_cons_of_mem _ hy)
  unfold bR;by_cases hk:(k==NameKind.free)=true
  .rw[if_pos hk,if_pos hk];obtain⟨c,hc⟩:=h (n,k) mem_cons_self (by simpa using hk);have e:cellOf env n=pure c:=by unfold cellOf;rw[hc]
   rw[e];have e2:(env.cells.lookup n).getD 0=c:=by rw[hc];rfl
   rw[e2];exact ih _
  .rw[if_neg hk,if_neg hk];exact ih _
theorem Cj{scope:Scope}{env:Env}(h:∀y∈scope.names,y.2=.free->∃c,env.cells.lookup y.1=some c):closureFor scope env=pure (bR env.cells scope.names []):=by
 simp only[closureFor];rw[ng env _ (fun n k c=>rfl) scope.names [] h];rfl
theorem mem_lookup{I:Type}:∀{l:List (Str×I)}{n:Str}{c:I},(n,c)∈l->∃c',l.lookup n=some c'
 |(k,v)::r,n,c,h=>by
  rw[lookup_cons];cases hb:n==k with
  |true=>exact⟨_,rfl⟩
  |false=>
   rcases mem_cons.mp h with e|h
   .cases e;simp at hb
   .exact mem_lookup h
theorem hJ{cells:List (Str×Addr)}:∀{names:List (Str×NameKind)}{acc:List (Str×Addr)}{n:Str}{c:Addr},(n,c)∈bR cells names acc->(n,c)∈acc\/((n,.free)∈names/\c=(cells.lookup n).getD 0)
 |[],_,_,_,h=>.inl h
 |(m,k)::r,acc,n,c,h=>by
  unfold bR at h;split at h
  .rename_i hk;have hk:k=.free:=by simpa using hk
   rcases hJ h with h|⟨h1,h2⟩
   .rcases mem_cons.mp h with e|h
    .cases e;exact .inr ⟨hk ▸ mem_cons_self,rfl⟩
    .exact .inl h
   .exact .inr ⟨mem_cons_of_mem _ h1,h2⟩
  .rcases hJ h with h|⟨h1,h2⟩
   .exact .inl h
   .exact .inr ⟨mem_cons_of_mem _ h1,h2⟩
theorem kz{cells:List (Str×Addr)}:∀{names:List (Str×NameKind)}{acc:List (Str×Addr)}{p:Str×Addr},p∈acc->p∈bR cells names acc
 |[],_,_,h=>h
 |(m,k)::r,acc,p,h=>by
  unfold bR;split
  .exact kz (mem_cons_of_mem _ h)
  .exact kz h
theorem ku{cells:List (Str×Addr)}:∀{names:List (Str×NameKind)}{acc:List (Str×Addr)}{n:Str},(n,.free)∈names->(n,(cells.lookup n).getD 0)∈bR cells names acc
 |(m,k)::r,acc,n,h=>by
  unfold bR;rcases mem_cons.mp h with e|h
  .cases e;exact kz mem_cons_self
  .split
   .exact ku h
   .exact ku h
theorem iO:∀{names:List (Str×NameKind)}{h:Heap}{acc:List (Str×Addr)}{x:Str}{c:Addr},(x,c)∈cellsFrom h.objs.size names acc->
  (x,c)∈acc\/((x,.cell)∈names/\h.objs.size<=c/\Lz (pushCells h names) c none)
 |[],_,_,_,_,h=>.inl h
 |(n,k)::r,h,acc,x,c,hm=>by
  unfold cellsFrom at hm;unfold pushCells;split at hm
  .rename_i hk;rw[if_pos hk];have hk:k=.cell:=by simpa using hk
   rw[<-Heap.size_push h {cls:=.type "cell",data:=.cell none}]at hm;rcases iO hm with hm|⟨h1,h2,h3⟩
   .rcases mem_cons.mp hm with e|hm
    .cases e;exact .inr ⟨hk ▸ mem_cons_self,le_refl _,_,pushCells_keeps r _ _ _ (Heap.get?_push_size _ rfl),rfl⟩
    .exact .inl hm
   .rw[Heap.size_push]at h2;exact .inr ⟨mem_cons_of_mem _ h1,le_of_succ_le h2,h3⟩
  .rename_i hk;rw[if_neg hk];rcases iO hm with hm|⟨h1,h2,h3⟩
   .exact .inl hm
   .exact .inr ⟨mem_cons_of_mem _ h1,h2,h3⟩
theorem kP:∀{names:List (Str×NameKind)}{n:Nat}{acc:List (Str×Addr)}{p:Str×Addr},p∈acc->p∈cellsFrom n names acc
 |[],_,_,_,h=>h
 |(m,k)::r,n,acc,p,h=>by
  unfold cellsFrom;split
  .exact kP (mem_cons_of_mem _ h)
  .exact kP h
theorem oE:∀{names:List (Str×NameKind)}{n:Nat}{acc:List (Str×Addr)}{x:Str},(x,.cell)∈names->∃c,(x,c)∈cellsFrom n names acc
 |(m,k)::r,n,acc,x,h=>by
  unfold cellsFrom;rcases mem_cons.mp h with e|h
  .cases e;exact⟨n,kP mem_cons_self⟩
  .split
   .exact oE h
   .exact oE h
theorem oC:∀{names:List (Str×NameKind)}{h:Heap}{acc:List (Str×Addr)}{x y:Str}{c:Addr},(∀p∈acc,p.2<h.objs.size)->(∀x y c,(x,c)∈acc->(y,c)∈acc->x=y)->
  (x,c)∈cellsFrom h.objs.size names acc->(y,c)∈cellsFrom h.objs.size names acc->x=y
 |[],_,_,_,_,_,_,hi,h1,h2=>hi _ _ _ h1 h2
 |(n,k)::r,h,acc,x,y,c,hl,hi,h1,h2=>by
  unfold cellsFrom at h1 h2;split at h1
  .rename_i hk;rw[if_pos hk]at h2;rw[<-Heap.size_push h {cls:=.type "cell",data:=.cell none}]at h1 h2;refine oC (h:=h.push _) (fun p hp=>?_) (fun x y c a b=>?_) h1 h2
   .rw[Heap.size_push];rcases mem_cons.mp hp with rfl|hp
    .exact lt_succ_self _
    .exact lt_succ_of_lt (hl p hp)
   .rcases mem_cons.mp a with e|a<;>rcases mem_cons.mp b with e'|b
    .cases e;cases e';rfl
    .cases e;exact absurd (hl _ b) (lt_irrefl _)
    .cases e';exact absurd (hl _ a) (lt_irrefl _)
    .exact hi _ _ _ a b
  .rename_i hk;rw[if_neg hk]at h2;exact oC hl hi h1 h2
theorem yp{M:Model}{A:Around}{E:Value->Shared->Prop}{s:Shared}{scope:Scope}{globals:Addr}{closure:List (Str×Addr)}{qual:Str}{func:Option Addr}{code:Value}{around:Env}{builtins:Addr}{Q:Env->Shared->Prop}
  (h:Q (newEnv scope s.heap.objs.size globals (cellsFrom (s.heap.objs.size+1) scope.names closure) qual func code (some around) builtins)
   {s with heap:=pushCells (s.heap.push {cls:=.type "dict",data:=.dict #[]}) scope.names}):
  wpAny M A (newFunctionEnv scope globals closure [] qual func code (some around) builtins) Q E s:=by
 simp only[newFunctionEnv,isSome_some,if_true];refine wpAny_bind (wpAny_alloc ?_);refine wpAny_bind (wpAny_layCells _ (fun n k c=>rfl) scope.names closure _ _ ?_);rw[show({s with heap:=s.heap.push {cls:=.type "dict",data:=.dict #[]}}:Shared).heap.objs.size=s.heap.objs.size+1 from Heap.size_push ..];rw[forIn_nil];exact wpAny_bind (wpAny_pure (wpAny_pure h))
theorem kb{sc:Scope}:∀{names:List (Str×NameKind)}{x:Str}{k:NameKind},
  (names.map fun(n,k)=>if (k==NameKind.free&&sc.kind==.function&&sc.names.lookup n==some .cell)then(n,NameKind.cell)else(n,k)).lookup x=some k->
  ∃k',names.lookup x=some k'/\(k=k'\/(k'=.free/\k=.cell))
 |[],_,_,h=>by simp at h
 |(n,k₀)::r,x,k,h=>by
  have ih:=@kb sc r x k;have h':List.lookup x ((if (k₀==NameKind.free&&sc.kind==.function&&sc.names.lookup n==some .cell)=true then(n,NameKind.cell)else(n,k₀))::(r.map _))=some k:=h;cases hx:x==n with
  |true=>
   simp only[lookup_cons,hx];by_cases hc:(k₀==NameKind.free&&sc.kind==.function&&sc.names.lookup n==some .cell)=true
   .rw[if_pos hc]at h';simp only[lookup_cons,hx]at h';cases h';simp only[Bool.and_eq_true,beq_iff_eq]at hc;exact⟨k₀,rfl,.inr ⟨hc.1.1,rfl⟩⟩
   .rw[if_neg hc]at h';simp only[lookup_cons,hx]at h';cases h';exact⟨_,rfl,.inl rfl⟩
  |false=>
   simp only[lookup_cons,hx];by_cases hc:(k₀==NameKind.free&&sc.kind==.function&&sc.names.lookup n==some .cell)=true
   .rw[if_pos hc]at h';simp only[lookup_cons,hx]at h';exact ih h'
   .rw[if_neg hc]at h';simp only[lookup_cons,hx]at h';exact ih h'
structure Ar(N:List Str)(sc scope:Scope)(own:List (Str×Nat)):Prop where
 kind:scope.kind=.function
 uniq:∀y∈scope.names,scope.names.lookup y.1=some y.2
 ix:∀p∈own,N[p.2]?=some p.1
 free:∀y∈scope.names,y.2=.free->sc.names.lookup y.1=some .cell\/sc.names.lookup y.1=some .free
 own:∀y∈scope.names,y.2=.local\/y.2=.cell->y.1∈own.map (·.1)\/y.1∉N
def wipe(Y:St):List Nat->St
 |[]=>Y
 |v::vs=>(wipe Y vs).set v none
theorem jG(Y:St):∀vs:List Nat,(wipe Y vs).length=Y.length
 |[]=>rfl
 |v::vs=>by unfold wipe;rw[List.length_set,jG Y vs]
theorem nG{Y:St}{i:Nat}{x:V}:∀{vs:List Nat},(wipe Y vs)[i]?=some (some x)->Y[i]?=some (some x)/\i∉vs
 |[],h=>⟨h,by simp⟩
 |v::vs,h=>by
  unfold wipe at h;by_cases hi:v=i
  .subst hi;by_cases hv:v<(wipe Y vs).length
   .rw[List.getElem?_set_self hv]at h;cases h
   .rw[List.getElem?_eq_none (by simpa using hv)]at h;cases h
  .rw[List.getElem?_set_ne hi]at h;obtain⟨h1,h2⟩:=nG h;exact⟨h1,by simp only[mem_cons,not_or];exact⟨fun e=>hi e.symm,h2⟩⟩
abbrev Cx.blk(X:Cx)(s:Shared)(H:Hp)(scope:Scope)(eS:Env)(fp:List Addr):Cx:={X with s₀:=s,H₀:=H,env:=eS,outer:=X.stack,ex:=fp,fn:=fun x=>scope.names.lookup x==some .cell,pn:=[],xe:=fun _ _=>False}
section
variable{X:Cx}{pins:List (Addr×Obj)}{Y:St}{H:Hp}{s:Shared}
theorem Aa{scope:Scope}{own:List (Str×Nat)}{fp:List Addr}(I:Inv X pins Y H s)(ok:Ar X.N X.env.scope scope own)(hN:X.N.Nodup)(hfp:∀b∈fp,pH X pins H b/\b<s.heap.objs.size):
  Inv (X.blk s H scope (compEnvC scope (cellsFrom (s.heap.objs.size+1) scope.names (bR X.env.cells scope.names [])) s.heap.objs.size X.env) fp) [] (wipe Y (own.map (·.2))) H {s with heap:=pushCells (s.heap.push {cls:=.type "dict",data:=.dict #[]}) scope.names}:=by
 have uA:∀y∈scope.names,y.2=.free->∃c,X.env.cells.lookup y.1=some c:=fun y hy e=>by
  rcases ok.free y hy e with k|k
  .exact I.ok.has _ (.inl k)
  .exact I.ok.has _ (.inr k)
 generalize yN:compEnvC scope (cellsFrom (s.heap.objs.size+1) scope.names (bR X.env.cells scope.names [])) s.heap.objs.size X.env=eS;have kp:∀b o,s.heap.get? b=some o->(pushCells (s.heap.push {cls:=.type "dict",data:=.dict #[]}) scope.names).get? b=some o:=fun b o e=>pushCells_keeps _ _ _ _ (Heap.get?_push_of_some _ e)
 have hL:eS.locals=s.heap.objs.size:=by rw[<-yN];rfl
 have hcl:eS.cells=cellsFrom (s.heap.objs.size+1) scope.names (bR X.env.cells scope.names []):=by rw[<-yN];rfl
 have hsc:eS.scope=W3 scope X.env.scope:=by rw[<-yN];rfl
 rw[<-Heap.size_push s.heap {cls:=.type "dict",data:=.dict #[]}]at hcl;have cm:∀{y c},(y,c)∈bR X.env.cells scope.names []->X.env.cells.lookup y=some c/\c<s.heap.objs.size:=fun{y c} hm=>by
  rcases hJ hm with hm|⟨h1,rfl⟩
  .cases hm
  .obtain⟨c,hc⟩:=uA _ h1 rfl;rw[hc];obtain⟨w,z⟩:=I.cell _ _ hc;exact⟨rfl,z.lt⟩
 have mem:∀{y c},eS.cells.lookup y=some c->(X.env.cells.lookup y=some c/\c<s.heap.objs.size)\/(s.heap.objs.size+1<=c/\Lz (pushCells (s.heap.push {cls:=.type "dict",data:=.dict #[]}) scope.names) c none):=fun{y c} e=>by
  rw[hcl]at e;rcases iO (PySem.mem_of_lookup e)with hm|⟨_,h2,h3⟩
  .exact .inl (cm hm)
  .rw[Heap.size_push]at h2;exact .inr ⟨h2,h3⟩
 have look:∀{y},scope.names.lookup y=some .free->∃c,eS.cells.lookup y=some c/\X.env.cells.lookup y=some c:=fun{y} hl=>by
  have hy:(y,NameKind.free)∈scope.names:=PySem.mem_of_lookup hl;obtain⟨c',e'⟩:=mem_lookup (kP (names:=scope.names) (n:=(s.heap.push {cls:=.type "dict",data:=.dict #[]}).objs.size) (ku (cells:=X.env.cells) (acc:=[]) hy));rw[<-hcl]at e';refine⟨c',e',?_⟩;rw[hcl]at e';rcases iO (PySem.mem_of_lookup e')with hm|⟨h1,_,_⟩
  .exact(cm hm).1
  .have:=ok.uniq _ h1;rw[hl]at this;cases this
 have okB:(X.blk s H scope eS fp).Ok:=by
  refine⟨I.ok.mod,by show eS.scope.kind=_;rw[hsc];exact ok.kind,by show eS.globals=_;rw[<-yN];exact I.ok.glob,by show eS.builtins=_;rw[<-yN];exact I.ok.blt,by show s.heap.objs.size<=eS.locals;rw[hL];exact le_refl _,
   fun y z c e1 e2=>?_,fun y hy=>?_,fun y c z e=>?_,I.ok.hd,I.ok.frames,.inl rfl,fun b hb=>⟨?_,fun y c e z=>?_⟩,I.bs,le_trans I.ok.bsz I.sz,fun b o e hb=>?_,fun b hb z=>?_,I.stack,I.pK⟩
  .have e1:eS.cells.lookup y=some c:=e1;have e2:eS.cells.lookup z=some c:=e2;rw[hcl]at e1 e2;refine oC (fun p hp=>?_) (fun y z c a b=>I.ok.inj y z c (cm a).1 (cm b).1) (PySem.mem_of_lookup e1) (PySem.mem_of_lookup e2);rw[Heap.size_push];exact lt_succ_of_lt (cm (y:=p.1) (c:=p.2) hp).2
  .show ∃c,eS.cells.lookup y=some c;have key:∀k,eS.kindOf y=some k->(k=.cell\/k=.free)->∃c,eS.cells.lookup y=some c:=fun k hk hk'=>by
    unfold Env.kindOf at hk;rw[hsc]at hk;obtain⟨k',e,r⟩:=kb hk;have:k'=.cell\/k'=.free:=by
     rcases r with rfl|⟨rfl,_⟩
     .exact hk'
     .exact .inr rfl
    rcases this with rfl|rfl
    .obtain⟨c,hm⟩:=oE (n:=(s.heap.push {cls:=.type "dict",data:=.dict #[]}).objs.size) (acc:=bR X.env.cells scope.names []) (PySem.mem_of_lookup e);obtain⟨c',e'⟩:=mem_lookup hm;exact⟨c',by rw[hcl];exact e'⟩
    .obtain⟨c,h1,_⟩:=look e;exact⟨c,h1⟩
   rcases hy with hy|hy
   .exact key _ hy (.inl rfl)
   .exact key _ hy (.inr rfl)
  .have z:(scope.names.lookup y==some NameKind.cell)=true:=z;have z:scope.names.lookup y=some .cell:=by simpa using z
   have e:eS.cells.lookup y=some c:=e;rw[hcl]at e;rcases iO (PySem.mem_of_lookup e)with hm|⟨_,h2,_⟩
   .rcases hJ hm with hm|⟨h1,_⟩
    .cases hm
    .have q:=ok.uniq _ h1;rw[z]at q;cases q
   .rw[Heap.size_push]at h2;exact le_of_succ_le h2
  .show b≠eS.locals;rw[hL];exact ne_of_lt (hfp b hb).2
  .have e:eS.cells.lookup y=some c:=e;rcases mem e with⟨h1,_⟩|⟨h1,_⟩
   .exact(hfp b hb).1.2.2.2.2.1 y c h1 z
   .have h2:s.heap.objs.size+1<=b:=by rw[<-z];exact h1
    exact absurd (lt_of_lt_of_le (hfp b hb).2 (le_of_succ_le h2)) (lt_irrefl _)
  .rcases(hfp b hb).1.2.2.2.1 with z|z
   .exact I.ok.yn b o e z
   .exact absurd (lt_of_lt_of_le (Heap.lt_size e) (le_trans I.ok.bsz z)) (lt_irrefl _)
  .rcases mem_cons.mp (I.jQ b z)with z|z
   .exact(hfp b hb).1.2.1 z
   .exact(hfp b hb).1.2.2.1 z
 refine⟨okB,rfl,I.bare,Un.kept kp,⟨fun _=>none,?_,fun i y av e1 e2 e3=>?_⟩,fun y c e=>?_,?_,fun y c e=>?_,fun p hp=>?_,I.hok.kept kp,by rw[jG];exact I.len⟩
 .show Heap.Ns _ eS.locals _;rw[hL];exact Heap.Ns.keeps (Heap.Ns.new ..) fun b o e=>pushCells_keeps _ _ _ _ e
 .obtain⟨e2,hne⟩:=nG e2;have hfr:scope.names.lookup y=some .free/\(eS.kindOf y=some .cell\/eS.kindOf y=some .free):=by
   have key:∀k,eS.scope.names.lookup y=some k->k=.local\/k=.cell\/k=.free->scope.names.lookup y=some .free/\(eS.kindOf y=some .cell\/eS.kindOf y=some .free):=fun k hk hk'=>by
    have hk0:=hk;rw[hsc]at hk;obtain⟨k',e,r⟩:=kb hk;have no:¬(k'=.local\/k'=.cell):=fun hh=>by
     rcases ok.own _ (PySem.mem_of_lookup e) hh with e'|e'
     .obtain⟨p,hp,hpy⟩:=mem_map.mp e';have e3:=ok.ix p hp;have:p.1=y:=hpy;rw[this]at e3;exact hne (mem_map.mpr ⟨p,hp,qW hN e3 e1⟩)
     .exact e' (mem_of_getElem? e1)
    rcases r with rfl|⟨rfl,rfl⟩
    .rcases hk' with rfl|rfl|rfl
     .exact absurd (.inl rfl) no
     .exact absurd (.inr rfl) no
     .exact⟨e,.inr hk0⟩
    .exact⟨e,.inl hk0⟩
   have e3:Vis eS.scope y:=e3;rcases e3 with e3|e3|e3
   .exact key _ e3 (.inl rfl)
   .exact key _ e3 (.inr (.inl rfl))
   .exact key _ e3 (.inr (.inr rfl))
  obtain⟨m,hn,hl⟩:=I.loc;have Xx:Vis X.env.scope y:=(ok.free _ (PySem.mem_of_lookup hfr.1) rfl).elim (fun k=>.inr (.inl k)) (fun k=>.inr (.inr k));obtain⟨w,r,q⟩:=hl i y av e1 e2 Xx;refine⟨w,r,.inr ⟨hfr.2,?_⟩⟩;obtain⟨c,h1,h2⟩:=look hfr.1;rcases q with⟨k,_⟩|⟨_,c',e',z⟩
  .have k:X.env.scope.names.lookup y=some .local:=k;rcases ok.free _ (PySem.mem_of_lookup hfr.1) rfl with k'|k'<;>rw[show X.env.scope.names.lookup y=_ from k']at k<;>cases k
  .rw[h2]at e';cases e';exact⟨c,h1,z.keeps kp⟩
 .have e:eS.cells.lookup y=some c:=e;rcases mem e with⟨h1,_⟩|⟨_,z⟩
  .obtain⟨w,z⟩:=I.cell y c h1;exact⟨w,z.keeps kp⟩
  .exact⟨_,z⟩
 .show H eS.locals=none;rw[hL];exact I.hok.fresh (le_refl _)
 .have e:eS.cells.lookup y=some c:=e;rcases mem e with⟨h1,_⟩|⟨h1,_⟩
  .exact I.fw y c h1
  .exact I.hok.fresh (le_of_succ_le h1)
 .exact absurd (show p∈([]:List (Addr×Obj))++[]from hp) (by simp)
theorem UL{E:Value->Shared->Prop}{D:Addr}{xs:List V}{y:V}{v:Value}{Q:Value->Shared->Prop}(I:Inv X pins Y H s)(hD:H D=some (.lst xs))(hz:xs.length<sizeLine)(r:RelV y v)
  (h:∀s',Inv X pins Y (upd H D (.lst (xs++[y]))) s'->Q .none s'):wpAny (model X.prog X.w) X.A (call (.builtin "list.append") [.ref D,v]) Q E s:=by
 obtain⟨hz',its,n,ri,e⟩:=I.hok D _ hD;have hl:=ri.length;refine append_at (hsz:=by rw[size_toArray];omega) e fun h' sb ho'=>?_
 refine h {s with heap:=h'} (I.write (t':=s.toks) (by rw[hD];trivial) (.inl rfl) (fun b u hb q=>(sb.2 b hb).trans q) ⟨_,ho'⟩ ⟨by rw[length_append];exact hz,its++[v],n+1,ri.append (.cons r .nil),?_⟩);rw[ho'];simp
def PTs(X:Cx)(ifs:List Expr)(t:TT):Prop:=
 ∀(pins:List (Addr×Obj))(s:Shared)(Y:St)(H:Hp)(Q:Bool->Hp->Prop),Inv X pins Y H s->t Y H Q->
  wpAny (model X.prog X.w) X.A (forIn ifs true fun c r=>if r=true then do let ok <-isTrue c X.env (eval c X.env);pure (ForInStep.yield ok)else pure (ForInStep.yield r)) (TP X pins Y Q) X.xe s
def QP:TT:=fun _ H Q=>Q true H
theorem gV:PTs X [] QP:=fun _ _ _ H _ I h=>wpAny_tests_nil ⟨H,I,h⟩
end
theorem D8{I:Type}{t:Sem I}{Q Q':I->Shared->Prop}{M:Model}{A:Around}{E:Value->Shared->Prop}{s:Shared}(h:wpAny M A t Q (fun _ _=>False) s)(hQ:∀a s,Q a s->Q' a s):wpAny M A t Q' E s:=wpAny_mono h hQ fun _ _ z=>False.elim z
theorem w9{prog:Program}{w:World}{A:Around}{R:Result->Shared->Prop}{s:Shared}{elt target iter:Expr}{ifs:List Expr}{scope:Scope}{pos:Pos}{it acc:Value}{env:Env}(I:Nat->Shared->Prop)
  (turn:∀n s,I n s->wpAny (model prog w) A (pyNext it) (fun r s₁=>match r with
   |none=>R (.ok .next) s₁
   |some v=>wpAny (model prog w) A (letOwnedTupleGo target it v) (fun _ s₁'=>wpAny (model prog w) A (assign target env v) (fun _ s₂=>
     wpAny (model prog w) A (forIn ifs true fun c r=>if r=true then do let ok <-isTrue c env (eval c env);pure (ForInStep.yield ok)else pure (ForInStep.yield r)) (fun ok s₃=>
      if ok=true then wpAny (model prog w) A (eval elt env) (fun x s₄=>
       wpAny (model prog w) A (call (.builtin "list.append") [acc,x]) (fun _ s₅=>∃m,m<n/\I m s₅) (notedBy (model prog w) A env fun e s'=>R (.error e) s') s₄) (notedBy (model prog w) A env fun e s'=>R (.error e) s') s₃
      else ∃m,m<n/\I m s₃) (notedBy (model prog w) A env fun e s'=>R (.error e) s') s₂) (notedBy (model prog w) A env fun e s'=>R (.error e) s') s₁') (notedBy (model prog w) A env fun e s'=>R (.error e) s') s₁) (notedBy (model prog w) A env fun e s'=>R (.error e) s') s)
  (n:Nat) (h:I n s):
  codeAny (model prog w) A (.compLoop (.ListComp elt [⟨target,iter,ifs,0⟩] scope pos) 0 it acc env) R s:=by
 refine codeAny_loop rfl I (fun n s hI=>?_) n h;show wpAny _ A ((compTurn (.ListComp elt [⟨target,iter,ifs,0⟩] scope pos) 0 it acc env).onRaise (fun x=>do noteFrame x env;theTreesLotGoes x)) _ _ s;refine wpAny_noted ?_;rw[compTurn_list];refine wpAny_bind (wpAny_standAt (wpAny_bind (wpAny_mono (turn n s hI) (fun r s₁ h₁=>?_) fun _ _ h'=>h')));cases r with
 |none=>exact wpAny_pure h₁
 |some v=>
  refine wpAny_bind (wpAny_mono h₁ (fun _ s₁' h₁'=>?_) fun _ _ h'=>h');refine wpAny_bind (wpAny_mono h₁' (fun _ s₂ h₂=>wpAny_bind (wpAny_mono h₂ (fun ok s₃ h₃=>?_) fun _ _ h'=>h')) fun _ _ h'=>h');cases ok with
  |false=>exact wpAny_pure ⟨rfl,h₃⟩
  |true=>
   exact wpAny_bind (wpAny_bind (wpAny_mono h₃ (fun x s₄ h₄=>wpAny_bind (wpAny_mono h₄ (fun _ s₅ h₅=>wpAny_pure (wpAny_pure ⟨rfl,h₅⟩)) fun _ _ h'=>h')) fun _ _ h'=>h'))
section
variable{X:Cx}
def tLc(wi:TI)(g:TG)(tt:TT)(te:TE)(vs:List Nat):TE:=fun Y H Q=>wi Y H fun J H1=>∀D,H1 D=none->∃W:Nat->Nat->Hp->Prop,(∃m,W 0 m (upd H1 D (.lst [])))/\∀i m H,W i m H->
 (J.stop i H/\Q (.ref D) H)\/(J.go i H/\∃Nx:Hp->Prop,(∀H',Nx H'->∃m',m'<m/\W (i+1) m' H')/\∀x H',J.yld i H x H'->g x (wipe Y vs) H' fun Y2 H2=>wipe Y2 vs=wipe Y vs/\tt Y2 H2 fun b H3=>
  if b=true then te Y2 H3 fun y H4=>∃acc,H4 D=some (.lst acc)/\acc.length<sizeLine/\Nx (upd H4 D (.lst (acc++[y])))else Nx H3)
theorem Ds{pins:List (Addr×Obj)}{s:Shared}{Y:St}{H:Hp}{Q:VK}{elt tg iter:Expr}{ifs:List Expr}{scope:Scope}{own:List (Str×Nat)}{pos pos':Pos}{wi:TI}{g:TG}{tt:TT}{te:TE}{use:Option (Value->Sem Unit)}{Qf:Value->Shared->Prop}
  (hc:X.calm=true) (hN:X.N.Nodup) (I:Inv X pins Y H s) (hi:PI X tg iter wi) (ok:Ar X.N X.env.scope scope own)
  (hg:∀(s:Shared)(H:Hp)(C:Addr)(cl:List (Str×Addr))(fp:List Addr),PG (X.blk s H scope (compEnvC scope cl C X.env) fp) tg g) (ht:∀(s:Shared)(H:Hp)(C:Addr)(cl:List (Str×Addr))(fp:List Addr),PTs (X.blk s H scope (compEnvC scope cl C X.env) fp) ifs tt)
  (he:∀(s:Shared)(H:Hp)(C:Addr)(cl:List (Str×Addr))(fp:List Addr),PE (X.blk s H scope (compEnvC scope cl C X.env) fp) elt te) (hs:∀x,foldedSetIterable iter X.env x=pure x)
  (h:tLc wi g tt te (own.map (·.2)) Y H Q)
  (hRR:∀D C s' m H',Inv X pins Y H' s'->Q (.ref D) H'->s'.heap.Ns C m->pH X pins H' C->compPost (model X.prog X.w) X.A X.xe use Qf (.ref D) C (.ok .next) s'):
  wpAny (model X.prog X.w) X.A (comprehension (.ListComp elt [⟨tg,iter,ifs,0⟩] scope pos) scope X.env pos' (newList []) false (eval iter X.env) use) Qf X.xe s:=by
 have uA:∀y∈scope.names,y.2=.free->∃c,X.env.cells.lookup y.1=some c:=fun y hy e=>by
  rcases ok.free y hy e with k|k
  .exact I.ok.has _ (.inl k)
  .exact I.ok.has _ (.inr k)
 refine wpAny_comprehension_free (use:=use) rfl hs (Cj uA) ok.kind (fun y hy e=>by rw[ok.uniq y hy,e])
  (thn (hi pins s Y H _ I h) fun xv s1 hx=>thn hx fun itv s2 h2=>?_)
 obtain⟨it,fp,tn,J,H2,e,I2,T,st2,f2,q⟩:=h2;subst e;refine wpAny_newObj_type (yp ?_) (by show 0<=sizeLine;decide);generalize hD:s2.heap.objs.size=D;have hDn:H2 D=none:=I2.hok.fresh (le_of_eq hD);obtain⟨W,⟨m0,w0⟩,turn⟩:=q D hDn;generalize hs3:({s2 with heap:=s2.heap.push {cls:=.type "list",data:=.seq ([]:List Value).toArray}}:Shared)=s3;have I3:Inv X pins Y (upd H2 D (.lst [])) s3:=by
  rw[<-hs3];refine I2.laid (t':=s2.toks) (fun b o e=>Heap.get?_push_of_some _ e) (le_of_eq hD) ⟨zero_le _,[],0,.nil,?_⟩;rw[<-hD];exact Heap.get?_push_size _ rfl
 have h3:s3.heap=s2.heap.push {cls:=.type "list",data:=.seq ([]:List Value).toArray}:=by rw[<-hs3]
 have sz:∀b∈fp,b<s2.heap.objs.size:=fun b hb=>by
  obtain⟨o,e,_⟩:=T.obj _ _ st2 b hb;exact Heap.lt_size e
 have f3:∀b∈fp,pH X pins (upd H2 D (.lst [])) b/\b<s3.heap.objs.size:=fun b hb=>by
  have hlt:=sz b hb;refine⟨⟨?_,(f2 b hb).2⟩,by rw[h3,Heap.size_push];exact lt_succ_of_lt hlt⟩;rw[aq (by rw[<-hD];exact ne_of_lt hlt)];exact(f2 b hb).1
 have st3:tn 0 s3.heap:=T.keep _ _ _ st2 fun b _ o e=>by rw[h3];exact Heap.get?_push_of_some _ e
 have I4:=Aa I3 ok hN f3;have pg:=hg s3 (upd H2 D (.lst [])) s3.heap.objs.size (cellsFrom (s3.heap.objs.size+1) scope.names (bR X.env.cells scope.names [])) fp;have pt:=ht s3 (upd H2 D (.lst [])) s3.heap.objs.size (cellsFrom (s3.heap.objs.size+1) scope.names (bR X.env.cells scope.names [])) fp;have pe:=he s3 (upd H2 D (.lst [])) s3.heap.objs.size (cellsFrom (s3.heap.objs.size+1) scope.names (bR X.env.cells scope.names [])) fp;show codeAny _ _ (.compStart (.ListComp elt [⟨tg,iter,ifs,0⟩] scope pos) 0 (.ref it) (.ref D) (compEnvC scope (cellsFrom (s3.heap.objs.size+1) scope.names (bR X.env.cells scope.names [])) s3.heap.objs.size X.env)) (compPost (model X.prog X.w) X.A X.xe use Qf (.ref D) s3.heap.objs.size) {s3 with heap:=pushCells (s3.heap.push {cls:=.type "dict",data:=.dict #[]}) scope.names};have nfp:∀b∈fp,(upd H2 D (.lst [])) b=none:=fun b hb=>(f3 b hb).1.1
 generalize hce:compEnvC scope (cellsFrom (s3.heap.objs.size+1) scope.names (bR X.env.cells scope.names [])) s3.heap.objs.size X.env=ce at I4 pg pt pe ⊢;have cL:ce.locals=s3.heap.objs.size:=by subst hce;rfl
 generalize hH3:upd H2 D (.lst [])=H3 at I3 I4 pg pt pe w0 nfp f3;generalize hs4:({s3 with heap:=pushCells (s3.heap.push {cls:=.type "dict",data:=.dict #[]}) scope.names}:Shared)=s4 at I4 ⊢;have st4:tn 0 s4.heap:=T.keep _ _ _ st3 fun b _ o e=>by rw[<-hs4];exact pushCells_keeps _ _ _ _ (Heap.get?_push_of_some _ e)
 have AI:∀{Y':St}{H':Hp}{s':Shared},Inv (X.blk s3 H3 scope ce fp) [] Y' H' s'->(∀b∈fp,H' b=none)->∀b∈fp,pH (X.blk s3 H3 scope ce fp) [] H' b:=fun{Y' H' s'} I' hn b hb=>
  ⟨hn b hb,(I'.ok.exf b hb).1,I'.ok.zr b hb,.inl hb,fun x c e=>(I'.ok.exf b hb).2 x c e,fun p hp=>absurd (show p∈([]:List (Addr×Obj))++[]from hp) (by simp)⟩
 have loop:codeAny (model X.prog X.w) X.A (.compLoop (.ListComp elt [⟨tg,iter,ifs,0⟩] scope pos) 0 (.ref it) (.ref D) ce) (compPost (model X.prog X.w) X.A X.xe use Qf (.ref D) s3.heap.objs.size) s4:=by
  refine w9 (fun n s'=>∃i H',Inv (X.blk s3 H3 scope ce fp) [] (wipe Y (own.map (·.2))) H' s'/\tn i s'.heap/\(∀b∈fp,H' b=none)/\W i n H') ?_ m0 ⟨0,H3,I4,st4,nfp,w0⟩;rintro n s5 ⟨i,H5,I5,st5,n5,w5⟩;rcases turn i n H5 w5 with⟨stop,qq⟩|⟨go,Nx,hNx,step⟩
  .have td:=T.done (X.blk s3 H3 scope ce fp) rfl rfl rfl hc i [] s5 _ H5 (fun _ _=>False) I5 (AI I5 n5) st5 stop;refine D8 td fun r s6 hZ=>?_
   obtain⟨hr,I6⟩:=hZ;subst hr;have I7:Inv X pins Y H5 s6:=I3.Px (ch:=fp) I6.os I6.base I6.hok I6.bare fun b hb=>⟨(f3 b hb).1.2.2.2.1,(f3 b hb).1.2.1,(f3 b hb).1.2.2.2.2.1,(f3 b hb).1.2.2.2.2.2⟩
   have nC:H5 s3.heap.objs.size=none:=by
    have z:H5 ce.locals=none:=I6.free;rw[cL]at z;exact z
   obtain⟨m,hn,_⟩:=I6.loc;have hn:s6.heap.Ns ce.locals m:=hn;rw[cL]at hn;exact hRR D s3.heap.objs.size s6 m H5 I7 qq hn (I3.Ft (le_refl _) nC)
  .have ti:=T.item (X.blk s3 H3 scope ce fp) rfl rfl rfl hc i [] s5 _ H5 (fun _ _=>False) I5 (AI I5 n5) st5 go;refine D8 ti fun r s6 hZ=>?_
   obtain⟨u,hr,h6⟩:=hZ;subst hr;refine D8 h6 fun _ s7 hZ=>?_
   obtain⟨x,H7,I7,r7,y7,st7,n7⟩:=hZ;have I7':=I7.pinned (AI I7 n7) (T.obj _ _ st7);refine D8 (pg _ s7 _ H7 x u _ I7' r7 (step x H7 y7)) fun _ s8 hZ=>?_
   obtain⟨Y8,H8,I8,hw8,q8⟩:=hZ;refine D8 (pt _ s8 Y8 H8 _ I8 q8) fun b s9 hZ=>?_
   obtain⟨H9,I9,q9⟩:=hZ;have fin:∀{s':Shared}{H':Hp},Inv (X.blk s3 H3 scope ce fp) ([]++qJ fp s7.heap) Y8 H' s'->Nx H'->∃m,m<n/\∃i H',Inv (X.blk s3 H3 scope ce fp) [] (wipe Y (own.map (·.2))) H' s'/\tn i s'.heap/\(∀b∈fp,H' b=none)/\W i m H':=fun{s' H'} I' nx=>by
    obtain⟨m',hm,w'⟩:=hNx H' nx;have Vl:∀b∈fp,∀o,s7.heap.get? b=some o->s'.heap.get? b=some o/\H' b=none:=fun b hb o e=>
     let z:=I'.pin (b,o) (mem_append_right _ (mem_append_right _ (lU hb e)))
     ⟨z.1,z.2.1⟩
    have hl:(wipe Y (own.map (·.2))).length=Y8.length:=by rw[<-hw8,jG]
    refine⟨m',hm,i+1,H',(I'.mf (pins:=[])).weak hl (fun j v e=>?_),T.keep _ _ _ st7 fun b hb o e=>(Vl b hb o e).1,fun b hb=>?_,w'⟩
    .rw[<-hw8]at e;exact(nG e).1
    .obtain⟨o,e,_⟩:=T.obj _ _ st7 b hb;exact(Vl b hb o e).2
   cases b with
   |false=>
    simp only[Bool.false_eq_true,if_false]at q9 ⊢;exact fin I9 q9
   |true=>
    simp only[if_true]at q9 ⊢;refine D8 (pe _ s9 Y8 H9 _ I9 q9) fun z s10 hZ=>?_
    obtain⟨yv,H10,I10,r10,acc,Yz,Xw,nx⟩:=hZ;exact UL (X:=X.blk s3 H3 scope ce fp) I10 Yz Xw r10 fun s11 I11=>fin I11 nx
 exact codeAny_compStart_list loop (T.self X.A 0 _ _ _ st4 loop)
theorem qN{elt tg iter:Expr}{ifs:List Expr}{scope:Scope}{own:List (Str×Nat)}{pos:Pos}{wi:TI}{g:TG}{tt:TT}{te:TE}(hc:X.calm=true)(hN:X.N.Nodup)(hi:PI X tg iter wi)(ok:Ar X.N X.env.scope scope own)
  (hg:∀(s:Shared)(H:Hp)(C:Addr)(cl:List (Str×Addr))(fp:List Addr),PG (X.blk s H scope (compEnvC scope cl C X.env) fp) tg g) (ht:∀(s:Shared)(H:Hp)(C:Addr)(cl:List (Str×Addr))(fp:List Addr),PTs (X.blk s H scope (compEnvC scope cl C X.env) fp) ifs tt)
  (he:∀(s:Shared)(H:Hp)(C:Addr)(cl:List (Str×Addr))(fp:List Addr),PE (X.blk s H scope (compEnvC scope cl C X.env) fp) elt te) (hs:∀x,foldedSetIterable iter X.env x=pure x:=by intro _;rfl):
  PE X (.ListComp elt [⟨tg,iter,ifs,0⟩] scope pos) (tLc wi g tt te (own.map (·.2))):=by
 intro pins s Y H Q I h;rw[eval_ListComp];refine Ds hc hN I hi ok hg ht he hs h fun D C s' m H' I' q hn f=>⟨m,hn,fun h'' sb=>?_⟩
 obtain⟨f0,f1,f2,f3,f4,f5⟩:=f;exact⟨.ref D,H',I'.turned (t':=s'.toks) (fun b o hb e=>(sb.2 b hb).trans e) f0 f1 f3 f4 f5,rfl,q⟩
theorem HC{i:Nat}{y:Str}{py:Pos}{elt tg iter:Expr}{ifs:List Expr}{scope:Scope}{own:List (Str×Nat)}{pos U5:Pos}{wi:TI}{g:TG}{tt:TT}{te:TE}(hc:X.calm=true)(hN:X.N.Nodup)(hy:X.N[i]?=some y)(hyl:X.env.scope.names.lookup y=some .local)
  (hsw:swapsWith (.ListComp elt [⟨tg,iter,ifs,0⟩] scope pos) (some (.Name y py)) U5.line X.env=pure true) (hi:PI X tg iter wi) (ok:Ar X.N X.env.scope scope own)
  (hg:∀(s:Shared)(H:Hp)(C:Addr)(cl:List (Str×Addr))(fp:List Addr),PG (X.blk s H scope (compEnvC scope cl C X.env) fp) tg g) (ht:∀(s:Shared)(H:Hp)(C:Addr)(cl:List (Str×Addr))(fp:List Addr),PTs (X.blk s H scope (compEnvC scope cl C X.env) fp) ifs tt)
  (he:∀(s:Shared)(H:Hp)(C:Addr)(cl:List (Str×Addr))(fp:List Addr),PE (X.blk s H scope (compEnvC scope cl C X.env) fp) elt te) (hs:∀x,foldedSetIterable iter X.env x=pure x:=by intro _;rfl):
  PS X (.Assign [.Name y py] (.ListComp elt [⟨tg,iter,ifs,0⟩] scope pos) U5) (Ea (tLc wi g tt te (own.map (·.2))) (g9 i)):=by
 intro pins s Y H D I h;rw[exec_Assign_Name_used _ _ _ _ hsw];refine wpAny_bind (wpAny_standAt (wpAny_bind ?_));show wpAny _ X.A (do let _ <-comprehension (.ListComp elt [⟨tg,iter,ifs,0⟩] scope pos) scope X.env (firstIterPos [⟨tg,iter,ifs,0⟩] pos) (newList []) false (eval iter X.env) (some (assign (.Name y py) X.env))) _ _ s;have h:tLc wi g tt te (own.map (·.2)) Y H (fun x H1=>g9 i x Y H1 D.nx):=h;refine wpAny_bind (thn (Ds (Qf:=fun _ s'=>SP X pins D .next s') hc hN I hi ok hg ht he hs h fun L C s' m H' I' q hn f=>?_) fun _ s' hq=>wpAny_pure (wpAny_pure hq));show wpAny _ _ (assign (.Name y py) X.env (.ref L)) _ _ _;refine wpAny_assign_Name (t5 (v:=V.ref L) I' hN hy (.inl hyl) rfl (fun s2 I2 hZ=>?_) (.inr hyl));obtain⟨a,sb,ha⟩:=hZ;obtain⟨f0,f1,f2,f3,f4,f5⟩:=f;have haC:C≠a:=by
  rcases ha with z|z
  .rw[z];exact f1
  .exact fun e=>f4 y a z e.symm
 refine⟨m,hn.sameBut sb haC,fun h3 sb3=>?_⟩;exact⟨_,H',I2.turned (t':=s2.toks) (fun b o hb e=>(sb3.2 b hb).trans e) f0 f1 f3 f4 f5,q⟩
end
theorem ME{K:Frag}{a:Addr}{xs:List V}{g:TG}{tt:TT}{te:TE}{vs:List Nat}{Y:St}{H1:Hp}{D:Addr}{Qd:Hp->Prop}(Pv:Nat->Hp->Prop)(h0:Pv 0 (upd H1 D (.lst [])))(hl:∀i H,i<=xs.length->Pv i H->SqL K H a xs)
  (hs:∀i x H,xs[i]?=some x->Pv i H->g x (wipe Y vs) H fun Y2 H2=>wipe Y2 vs=wipe Y vs/\tt Y2 H2 fun b H3=>
   if b=true then te Y2 H3 fun y H4=>∃acc,H4 D=some (.lst acc)/\acc.length<sizeLine/\Pv (i+1) (upd H4 D (.lst (acc++[y])))else Pv (i+1) H3) (hd:∀H,Pv xs.length H->Qd H):
  ∃W:Nat->Nat->Hp->Prop,(∃m,W 0 m (upd H1 D (.lst [])))/\∀i m H,W i m H->
   ((Itl K a).stop i H/\Qd H)\/((Itl K a).go i H/\∃Nx:Hp->Prop,(∀H',Nx H'->∃m',m'<m/\W (i+1) m' H')/\∀x H',(Itl K a).yld i H x H'->g x (wipe Y vs) H' fun Y2 H2=>wipe Y2 vs=wipe Y vs/\tt Y2 H2 fun b H3=>
    if b=true then te Y2 H3 fun y H4=>∃acc,H4 D=some (.lst acc)/\acc.length<sizeLine/\Nx (upd H4 D (.lst (acc++[y])))else Nx H3):=by
 refine⟨fun i m H=>m=xs.length-i/\i<=xs.length/\Pv i H,⟨xs.length,by simp,zero_le _,h0⟩,?_⟩;rintro i m H ⟨rfl,hi,p⟩;have q:=hl i H hi p;by_cases hlt:i<xs.length
 .refine .inr ⟨⟨xs,xs[i],q,by simp[hlt]⟩,Pv (i+1),fun H' p'=>⟨xs.length-(i+1),by omega,rfl,hlt,p'⟩,fun x H' y=>?_⟩;obtain⟨e,y⟩:=y;subst e;exact hs i x _ (y xs q) p
 .have e:i=xs.length:=by omega
  subst e;exact .inl ⟨⟨xs,q,le_refl _⟩,hd H p⟩
theorem TB{K:Frag}{a:Addr}{xs:List V}{g:TG}{tt:TT}{te:TE}{vs:List Nat}{Y:St}{H1:Hp}{D:Addr}{Qd:Hp->Prop}(Pv:Nat->Hp->Prop)(h0:Pv 0 (upd H1 D (.lst [])))(hl:∀i H,i<=xs.length->Pv i H->SqT K H a xs)
  (hs:∀i x H,xs[i]?=some x->Pv i H->g x (wipe Y vs) H fun Y2 H2=>wipe Y2 vs=wipe Y vs/\tt Y2 H2 fun b H3=>
   if b=true then te Y2 H3 fun y H4=>∃acc,H4 D=some (.lst acc)/\acc.length<sizeLine/\Pv (i+1) (upd H4 D (.lst (acc++[y])))else Pv (i+1) H3) (hd:∀H,Pv xs.length H->Qd H):
  ∃W:Nat->Nat->Hp->Prop,(∃m,W 0 m (upd H1 D (.lst [])))/\∀i m H,W i m H->
   ((Itt K a).stop i H/\Qd H)\/((Itt K a).go i H/\∃Nx:Hp->Prop,(∀H',Nx H'->∃m',m'<m/\W (i+1) m' H')/\∀x H',(Itt K a).yld i H x H'->g x (wipe Y vs) H' fun Y2 H2=>wipe Y2 vs=wipe Y vs/\tt Y2 H2 fun b H3=>
    if b=true then te Y2 H3 fun y H4=>∃acc,H4 D=some (.lst acc)/\acc.length<sizeLine/\Nx (upd H4 D (.lst (acc++[y])))else Nx H3):=by
 refine⟨fun i m H=>m=xs.length-i/\i<=xs.length/\Pv i H,⟨xs.length,by simp,zero_le _,h0⟩,?_⟩;rintro i m H ⟨rfl,hi,p⟩;have q:=hl i H hi p;by_cases hlt:i<xs.length
 .refine .inr ⟨⟨xs,xs[i],q,by simp[hlt]⟩,Pv (i+1),fun H' p'=>⟨xs.length-(i+1),by omega,rfl,hlt,p'⟩,fun x H' y=>?_⟩;obtain⟨e,y⟩:=y;subst e;exact hs i x _ (y xs q) p
 .have e:i=xs.length:=by omega
  subst e;exact .inl ⟨⟨xs,q,le_refl _⟩,hd H p⟩
def WE(N:List Str)(sc scope:Scope)(own:List (Str×Nat)):Bool:=
 (match scope.kind with|.function=>true|_=>false)&&(scope.names.all fun y=>decide (scope.names.lookup y.1=some y.2))&&(own.all fun p=>decide (N[p.2]?=some p.1)) &&
  (scope.names.all fun y=>match y.2 with
   |.free=>(match sc.names.lookup y.1 with|some .cell=>true|some .free=>true|_=>false)
   |.local=>decide (y.1∈own.map (·.1))||decide (y.1∉N)
   |.cell=>decide (y.1∈own.map (·.1))||decide (y.1∉N)
   |_=>true)
theorem fW{N:List Str}{sc scope:Scope}{own:List (Str×Nat)}(h:WE N sc scope own=true):Ar N sc scope own:=by
 unfold WE at h;simp only[Bool.and_eq_true,all_eq_true,decide_eq_true_eq]at h;obtain⟨⟨⟨h1,h2⟩,h3⟩,h4⟩:=h;refine⟨?_,h2,h3,fun y hy e=>?_,fun y hy e=>?_⟩
 .split at h1
  .assumption
  .cases h1
 .have q:=h4 y hy;simp only[e]at q;split at q<;>first|exact .inl (by assumption)|exact .inr (by assumption)|cases q
 .have q:=h4 y hy;rcases e with e|e<;>(simp only[e,Bool.or_eq_true,decide_eq_true_eq]at q;exact q)
section
variable{D:Type}[DecidableEq D]
def dJ(kvs:List (D×V))(k:D):Option V:=(kvs.find? fun kv=>decide (kv.1=k)).map (·.2)
def putK(kvs:List (D×V))(k:D)(v:V):List (D×V):=
 if (kvs.any fun kv=>decide (kv.1=k))=true then kvs.map (fun kv=>if kv.1=k then(kv.1,v)else kv)else kvs++[(k,v)]
theorem ip{p:D×V}{r:List (D×V)}{k:D}(e:p.1=k):dJ (p::r) k=some p.2:=by simp[dJ,List.find?_cons,e]
theorem iq{p:D×V}{r:List (D×V)}{k:D}(e:¬p.1=k):dJ (p::r) k=dJ r k:=by simp[dJ,List.find?_cons,e]
theorem me(k:D):∀kvs:List (D×V),(kvs.any fun kv=>decide (kv.1=k))=(dJ kvs k).isSome
 |[]=>rfl
 |p::r=>by
  rw[any_cons];by_cases e:p.1=k
  .simp only[ip e,decide_eq_true e,Bool.true_or,isSome_some]
  .rw[iq e,decide_eq_false e,Bool.false_or];exact me k r
theorem oT(kvs:List (D×V))(k:D)(v:V):(putK kvs k v).length<=kvs.length+1:=by
 unfold putK;split
 .rw[length_map];omega
 .rw[length_append,length_cons,length_nil];omega
theorem Hy{kvs:List (D×V)}{k:D}(v:V)(h:dJ kvs k=none):putK kvs k v=kvs++[(k,v)]:=by
 unfold putK;rw[me,h];exact if_neg (by decide)
theorem il.gD{o:Option V}{u:Option Value}(r:il o u):o.isSome=u.isSome:=by
 cases o with
 |none=>cases u with
  |none=>rfl
  |some _=>exact(show False from r).elim
 |some _=>cases u with
  |none=>exact(show False from r).elim
  |some _=>rfl
theorem il.getD{o:Option V}{u:Option Value}{d:V}{d':Value}(r:il o u)(rd:RelV d d'):RelV (o.getD d) (u.getD d'):=by
 cases o with
 |none=>cases u with
  |none=>exact rd
  |some _=>exact(show False from r).elim
 |some _=>cases u with
  |none=>exact(show False from r).elim
  |some _=>exact r
theorem KV.val{kvs:List (D×V)}{vs:List (D×Value)}(r:KV kvs vs)(k:D):il (dJ kvs k) (valueAt vs k):=by
 unfold KV at r;induction r with
 |nil=>exact True.intro
 |@cons p q ps qs h t ih=>
  obtain⟨h1,h2⟩:=h;by_cases e:p.1=k
  .have e':q.1=k:=h1.symm.trans e;have b:valueAt (q::qs) k=some q.2:=by simp[valueAt,List.find?_cons,e']
   rw[ip e,b];exact h2
  .have e':¬q.1=k:=fun z=>e (h1.trans z)
   have b:valueAt (q::qs) k=valueAt qs k:=by simp[valueAt,List.find?_cons,e']
   rw[iq e,b];exact ih
theorem KV.any{kvs:List (D×V)}{vs:List (D×Value)}(r:KV kvs vs)(k:D):(kvs.any fun kv=>decide (kv.1=k))=vs.any fun kv=>decide (kv.1=k):=by
 unfold KV at r;induction r with
 |nil=>rfl
 |cons h t ih=>rw[any_cons,any_cons,ih,h.1]
theorem KV.RL{kvs:List (D×V)}{vs:List (D×Value)}(r:KV kvs vs)(k:D){y:V}{u:Value}(ry:RelV y u):
  KV (kvs.map fun kv=>if kv.1=k then(kv.1,y)else kv) (vs.map fun kv=>if kv.1=k then(kv.1,u)else kv):=by
 unfold KV at r ⊢;induction r with
 |nil=>exact .nil
 |@cons p q ps qs h t ih=>
  rw[map_cons,map_cons];refine .cons ?_ ih;obtain⟨h1,h2⟩:=h;by_cases e:p.1=k
  .rw[if_pos e,if_pos (h1.symm.trans e)];exact⟨h1,ry⟩
  .rw[if_neg e,if_neg (fun z=>e (h1.trans z))];exact⟨h1,h2⟩
theorem KV.put{kvs:List (D×V)}{vs:List (D×Value)}(r:KV kvs vs)(k:D){y:V}{u:Value}(ry:RelV y u):KV (putK kvs k y) (stored vs k u):=by
 unfold putK stored;rw[r.any k];by_cases e:(vs.any fun kv=>decide (kv.1=k))=true
 .rw[if_pos e,if_pos e];exact r.RL k ry
 .rw[if_neg e,if_neg e];exact Paired.snoc r ⟨rfl,ry⟩
theorem KV.length{kvs:List (D×V)}{vs:List (D×Value)}(r:KV kvs vs):kvs.length=vs.length:=Paired.length r
end
theorem rE{P:Program}{w:World}{k:Key}{u:Value}(r:RelV (kV k) u):(bt P w).is k u=true:=by
 cases k with
 |inl i=>obtain⟨t,e⟩:=(show ∃t,u=Value.int i t from r);subst e;exact yu P w i t
 |inr x=>obtain⟨t,e⟩:=(show ∃t,u=Value.str x t from r);subst e;exact bC P w x t
theorem uv{P:Program}{w:World}:∀{ks:List Key}{us:List Value},Vals (ks.map kV) us->ItemsAre (bt P w) ks us
 |[],_,r=>by rw[map_nil]at r;cases r;exact .nil
 |k::ks,_,r=>by
  rw[map_cons]at r;cases r with
  |cons h t=>exact .cons (rE h) (uv t)
abbrev KT(H:Hp):List (List Key×V)->List (List Key×Addr×Value)->Prop:=Paired fun p q=>p.1=q.1/\H q.2.1=some (.tup (p.1.map kV))/\RelV p.2 q.2.2
theorem KT.val{H:Hp}{kvs:List (List Key×V)}{xs:List (List Key×Addr×Value)}(r:KT H kvs xs)(k:List Key):il (dJ kvs k) ((atKey xs k).map (·.2)):=by
 induction r with
 |nil=>exact True.intro
 |@cons p q ps qs h t ih=>
  obtain⟨h1,_,h2⟩:=h;by_cases e:p.1=k
  .have e':q.1=k:=h1.symm.trans e;have b:atKey (q::qs) k=some q.2:=by simp[atKey,List.find?_cons,e']
   rw[ip e,b];exact h2
  .have e':¬q.1=k:=fun z=>e (h1.trans z)
   have b:atKey (q::qs) k=atKey qs k:=by simp[atKey,List.find?_cons,e']
   rw[iq e,b];exact ih
theorem KT.RL{H:Hp}{kvs:List (List Key×V)}{xs:List (List Key×Addr×Value)}(r:KT H kvs xs)(k:List Key){y:V}{u:Value}(ry:RelV y u):
  KT H (kvs.map fun kv=>if kv.1=k then(kv.1,y)else kv) (xs.map (putAt k u)):=by
 induction r with
 |nil=>exact .nil
 |@cons p q ps qs h t ih=>
  rw[map_cons,map_cons];refine .cons ?_ ih;obtain⟨h1,h2,h3⟩:=h;unfold putAt;by_cases e:p.1=k
  .rw[if_pos e,if_pos (h1.symm.trans e)];exact⟨h1,h2,ry⟩
  .rw[if_neg e,if_neg (fun z=>e (h1.trans z))];exact⟨h1,h2,h3⟩
theorem KT.put{H:Hp}{kvs:List (List Key×V)}{xs:List (List Key×Addr×Value)}(r:KT H kvs xs)(k:List Key){b:Addr}{y:V}{u:Value}(hb:H b=some (.tup (k.map kV)))(ry:RelV y u):
  KT H (putK kvs k y) (storedH xs k b u):=by
 have e:(kvs.any fun kv=>decide (kv.1=k))=(atKey xs k).isSome:=by
  rw[me,(r.val k).gD,isSome_map]
 unfold putK storedH;rw[e];by_cases q:(atKey xs k).isSome=true
 .rw[if_pos q,if_pos q];exact r.RL k ry
 .rw[if_neg q,if_neg q];exact Paired.snoc r ⟨rfl,hb,ry⟩
theorem KT.keeps{H H':Hp}{kvs:List (List Key×V)}{xs:List (List Key×Addr×Value)}(r:KT H kvs xs)(ht:∀b ys,H b=some (.tup ys)->H' b=some (.tup ys)):KT H' kvs xs:=
 Paired.rn r fun _ _ z=>⟨z.1,ht _ _ z.2.1,z.2.2⟩
section
variable{P:Program}{w:World}{H:Hp}{h:Heap}{a:Addr}
theorem Hv{u:HO}(ok:HOk P w H h)(e:Rd H a u):b9 P w H h a u:=e.ok ok
theorem r9{kvs:List (Key×V)}(ok:HOk P w H h)(e:Rd H a (.dK kvs)):kvs.length<=sizeLine/\(a==sysModules)=false/\∃vs,KV kvs vs/\h.DictOf (bt P w) a vs:=
 show b9 P w H h a (.dK kvs)from Hv ok e
theorem Wy{kvs:List (Key×V)}(ok:HOk P w H h)(e:H a=some (.dK kvs)):kvs.length<=sizeLine/\(a==sysModules)=false/\∃vs,KV kvs vs/\h.DictOf (bt P w) a vs:=r9 ok (.inl e)
theorem l3{ks:List Key}(ok:HOk P w H h)(e:H a=some (.tup (ks.map kV))):(tupleKind (bt P w)).is h ks a:=by
 obtain⟨_,its,r,o,h1,h2,n,h3⟩:=(show b9 P w H h a (.tup (ks.map kV))from ok a _ e);exact⟨o,its.toArray,n,h1,h2,h3,by simpa using uv r⟩
theorem rZ{kvs:List (List Key×V)}(ok:HOk P w H h)(e:Rd H a (.dT kvs)):kvs.length<=sizeLine/\(a==sysModules)=false/\
  ∃xs,KT H kvs xs/\h.DictOfH (tupleKind (bt P w)) a xs:=by
 obtain⟨z,y,xs,r,o,es,ep,h1,h2,h3,h4,h5⟩:=(show b9 P w H h a (.dT kvs)from Hv ok e);refine⟨z,y,xs,r,o,es,ep,h1,h2,h3,h4,fun x hx=>?_,h5⟩;have all:∀{l:List (List Key×V)}{m:List (List Key×Addr×Value)},KT H l m->∀x∈m,(tupleKind (bt P w)).is h x.1 x.2.1:=by
  intro l m q;induction q with
  |nil=>intro x hx;exact nomatch hx
  |@cons p q ps qs hq t ih=>
   intro x hx;rcases mem_cons.mp hx with e|hx
   .subst e;exact l3 ok (by rw[<-hq.1];exact hq.2.1)
   .exact ih x hx
 exact all r x hx
theorem Wx{kvs:List (List Key×V)}(ok:HOk P w H h)(e:H a=some (.dT kvs)):kvs.length<=sizeLine/\(a==sysModules)=false/\
  ∃xs,KT H kvs xs/\h.DictOfH (tupleKind (bt P w)) a xs:=rZ ok (.inl e)
end
def fY(H:Hp)(a:Addr)(y:V)(r:Option V):Prop:=
 (∃kvs k,Rd H a (.dK kvs)/\y=kV k/\r=dJ kvs k)\/∃kvs k b,Rd H a (.dT kvs)/\y=.ref b/\H b=some (.tup (k.map kV))/\r=dJ kvs k
def FZ(H:Hp)(a:Addr)(y v:V)(H':Hp):Prop:=
 (∃kvs k,H a=some (.dK kvs)/\y=kV k/\kvs.length<sizeLine/\H'=upd H a (.dK (putK kvs k v))) \/
 ∃kvs k b,H a=some (.dT kvs)/\y=.ref b/\H b=some (.tup (k.map kV))/\kvs.length<sizeLine/\H'=upd H a (.dT (putK kvs k v))
theorem fY.k{H:Hp}{a:Addr}{kvs:List (Key×V)}{k:Key}(e:H a=some (.dK kvs)):fY H a (kV k) (dJ kvs k):=.inl ⟨kvs,k,.inl e,rfl,rfl⟩
theorem FZ.k{H:Hp}{a:Addr}{kvs:List (Key×V)}{k:Key}{v:V}(e:H a=some (.dK kvs))(hl:kvs.length<sizeLine):FZ H a (kV k) v (upd H a (.dK (putK kvs k v))):=.inl ⟨kvs,k,e,rfl,hl,rfl⟩
section
variable{X:Cx}{pins:List (Addr×Obj)}{Y:St}{H:Hp}{s:Shared}{a:Addr}{y v:V}{u r:Value}{o:Option V}{A:Around}{E:Value->Shared->Prop}
theorem Inv.big(I:Inv X pins Y H s):sysModules<s.heap.objs.size:=by
 have h:mainGlobals<s.heap.objs.size:=(I.mod.glob.keeps I.bk).lt;exact Nat.lt_trans (by decide) h
theorem FC{Q:Value->Shared->Prop}(hu:A.units+1<cLine)(I:Inv X pins Y H s)(g:fY H a y (some v))(ry:RelV y u)(h:∀w' s',Inv X pins Y H s'->RelV v w'->Q w' s'):
  wpAny (model X.prog X.w) A (getItem (.ref a) u) Q E s:=by
 rcases g with⟨kvs,k,e,ey,l⟩|⟨kvs,k,b,e,ey,eb,l⟩
 .subst ey;obtain⟨z,hd,vs,rel,dd⟩:=r9 I.hok e;obtain⟨w',hw,rw'⟩:=il.some_of (v:=v) (o:=valueAt vs k) (by rw[l];exact rel.val k);exact wpAny_getItem_of (rE ry) dd.mapOf hw (h w' _ (I.tok _) rw')
 .subst ey;cases(show u=Value.ref b from ry);obtain⟨z,hd,xs,rel,dd⟩:=rZ I.hok e;obtain⟨w',hw,rw'⟩:=il.some_of (v:=v) (o:=(atKey xs k).map (·.2)) (by rw[l];exact rel.val k);obtain⟨p,hp,hp2⟩:=map_eq_some_iff.mp hw;refine wpAny_getItem_heap (tupleKind_room_in1 hu) (l3 I.hok eb) dd hp ?_;rw[hp2];exact h w' _ (I.tok _) rw'
theorem YH{Q:Value->Shared->Prop}(hu:A.units+1<cLine)(I:Inv X pins Y H s)(g:fY H a y o)(ry:RelV y u)(h:∀s',Inv X pins Y H s'->Q (.bool o.isSome) s'):
  wpAny (model X.prog X.w) A (compareOp .In u (.ref a)) Q E s:=by
 rcases g with⟨kvs,k,e,ey,l⟩|⟨kvs,k,b,e,ey,eb,l⟩
 .subst ey;obtain⟨z,hd,vs,rel,dd⟩:=r9 I.hok e;refine wpAny_in_of (rE ry) hd dd.mapOf ?_;rw[<-(rel.val k).gD,<-l];exact h _ (I.tok _)
 .subst ey;cases(show u=Value.ref b from ry);obtain⟨z,hd,xs,rel,dd⟩:=rZ I.hok e;refine wpAny_in_heap (tupleKind_room_in1 hu) (l3 I.hok eb) hd dd ?_;have q:=(rel.val k).gD;rw[isSome_map]at q;rw[<-q,<-l];exact h _ (I.tok _)
theorem M8{Q:Value->Shared->Prop}(hu:A.units+1<cLine)(I:Inv X pins Y H s)(g:fY H a y o)(ry:RelV y u)(h:∀s',Inv X pins Y H s'->Q (.bool (!o.isSome)) s'):
  wpAny (model X.prog X.w) A (compareOp .NotIn u (.ref a)) Q E s:=by
 rcases g with⟨kvs,k,e,ey,l⟩|⟨kvs,k,b,e,ey,eb,l⟩
 .subst ey;obtain⟨z,hd,vs,rel,dd⟩:=r9 I.hok e;refine wpAny_notIn_of (rE ry) hd dd.mapOf ?_;rw[<-(rel.val k).gD,<-l];exact h _ (I.tok _)
 .subst ey;cases(show u=Value.ref b from ry);obtain⟨z,hd,xs,rel,dd⟩:=rZ I.hok e;refine wpAny_notIn_heap (tupleKind_room_in1 hu) (l3 I.hok eb) hd dd ?_;have q:=(rel.val k).gD;rw[isSome_map]at q;rw[<-q,<-l];exact h _ (I.tok _)
theorem wU{h':Heap}{t':Nat}{ob:HO}(I:Inv X pins Y H s)(mu:Mut (H a))(hs:Heap.SameBut a s.heap h')(he:∃q,h'.get? a=some q)(new:b9 X.prog X.w (upd H a ob) h' a ob):
  Inv X pins Y (upd H a ob) {s with heap:=h',toks:=t'}:=
 I.write (x:=a) (e:=a) mu (.inl rfl) (fun b q hb z=>(hs.2 b hb).trans z) he new
theorem UA{P:Program}{w:World}{H':Hp}{h':Heap}{kvs:List (Key×V)}{vs:List (Key×Value)}(z:kvs.length<=sizeLine)(hd:(a==sysModules)=false)(rel:KV kvs vs)(dd:h'.DictOf (bt P w) a vs):
  b9 P w H' h' a (.dK kvs):=⟨z,hd,vs,rel,dd⟩
theorem FA{H':Hp}{Q:Unit->Shared->Prop}(hu:A.units+1<cLine)(I:Inv X pins Y H s)(g:FZ H a y v H')(ry:RelV y u)(rv:RelV v r)(h:∀s',Inv X pins Y H' s'->Q () s'):
  wpAny (model X.prog X.w) A (setItem (.ref a) u r) Q E s:=by
 rcases g with⟨kvs,k,e,ey,l,eH⟩|⟨kvs,k,b,e,ey,eb,l,eH⟩
 .subst ey eH;obtain⟨z,hd,vs,rel,dd⟩:=Wy I.hok e;have hz:vs.length<=sizeLine:=by rw[<-rel.length];exact z
  have hl:(putK kvs k v).length<=sizeLine:=by have:=oT kvs k v;omega
  refine wpAny_setItem_pairs (hsz:=hz) (rE ry) dd fun h' dd' hs=>h _ ?_
  have he:∃q,h'.get? a=some q:=let ⟨q,_,_,hq,_⟩:=dd';⟨q,hq⟩;exact wU I (by rw[e];exact True.intro) hs he (UA hl hd (rel.put k rv) dd')
 .subst ey eH;cases(show u=Value.ref b from ry);obtain⟨z,hd,xs,rel,dd⟩:=Wx I.hok e;have hz:xs.length<=sizeLine:=by rw[<-Paired.length rel];exact z
  have hl:(putK kvs k v).length<=sizeLine:=by have:=oT kvs k v;omega
  refine wpAny_setItem_heap (hsz:=hz) (tupleKind_room_in1 hu) (l3 I.hok eb) dd fun h' dd' hs=>h _ ?_
  obtain⟨q,es,ep,hq,h2,h3,h4,_,h5⟩:=dd';refine wU I (by rw[e];exact True.intro) hs ⟨q,hq⟩ ⟨hl,hd,_,(rel.put k eb rv).keeps fun c ys ec=>?_,q,es,ep,hq,h2,h3,h4,h5⟩;rw[aq (iC ec e (fun z=>nomatch z))];exact ec
end
def Nl(i:Expr):Prop:=∀ov iv,subscripted i false ov iv=operate [ov,iv] (getItem ov iv)
theorem vi{prog:Program}{w:World}{A:Around}{E:Value->Shared->Prop}{s:Shared}{env:Env}{value slice:Expr}{pos:Pos}{T id:String}{Q:Value->Shared->Prop}
  (hl:typeLookup (.type T) "__getitem__"=pure (some (.builtin id))) (hs:Nl slice)
  (h:wpAny (model prog w) A (eval value env) (fun o s₁=>wpAny (model prog w) A (eval slice env) (fun i s₂=>s₂.TypeIs o T/\wpAny (model prog w) A (getItem o i) Q E s₂) E s₁) E s):
  wpAny (model prog w) A (eval (.Subscript value slice pos) env) Q E s:=by
 refine Subscript_ (wpAny_mono h (fun o s₁ h₁=>wpAny_mono h₁ (fun i s₂ h₂=>?_) fun _ _ x=>x) fun _ _ x=>x);obtain⟨hT,h₂⟩:=h₂;unfold subscriptTail;refine wpAny_bind ?_;rw[getitemInPython_of_ne hT.not_modules];refine wpAny_bind (wpAny_specialOf hT hl ?_);have fin:wpAny (model prog w) A (subscripted slice false o i) (fun r s₃=>wpAny (model prog w) A (letTemporaryGo value o r >>= fun _=>pure r) Q E s₃) E s₂:=by
  rw[hs o i];exact wpAny_operating (wpAny_mono h₂ (fun r s₃ h₃=>wpAny_bind (wpAny_letTemporaryGo (wpAny_pure h₃))) fun _ _ x=>x)
 first
  |exact wpAny_pure (wpAny_bind fin)
  |exact wpAny_bind (wpAny_pure (wpAny_bind fin))
  |exact wpAny_bind fin
theorem zt{X:Cx}{pins:List (Addr×Obj)}{Y:St}{H:Hp}{s:Shared}{a:Addr}{y:V}{o:Option V}(I:Inv X pins Y H s)(g:fY H a y o):s.TypeIs (.ref a) "dict":=by
 rcases g with⟨kvs,k,e,_,_⟩|⟨kvs,k,b,e,_,_,_⟩
 .obtain⟨_,_,vs,_,dd⟩:=r9 I.hok e;exact dd.typeIs
 .obtain⟨_,_,xs,_,dd⟩:=rZ I.hok e;exact dd.typeIs
def Oa(td ty:TE):TE:=fun Y H Q=>td Y H fun x H1=>ty Y H1 fun y H2=>∃a v,x=.ref a/\fY H2 a y (some v)/\Q v H2
def U3(ty td:TE):TE:=fun Y H Q=>ty Y H fun y H1=>td Y H1 fun x H2=>∃a o,x=.ref a/\fY H2 a y o/\Q (.bl o.isSome) H2
def LI(ty td:TE):TE:=fun Y H Q=>ty Y H fun y H1=>td Y H1 fun x H2=>∃a o,x=.ref a/\fY H2 a y o/\Q (.bl (!o.isSome)) H2
def Vb(td ty tv:TE):TS:=fun D Y H=>tv Y H fun v H1=>td Y H1 fun x H2=>ty Y H2 fun y H3=>∃a H4,x=.ref a/\FZ H3 a y v H4/\D.nx Y H4
section
variable{X:Cx}{o i e value:Expr}{pos pos' D6:Pos}{td ty tv:TE}
theorem pM(hu:X.A.units+1<cLine)(ho:PE X o td)(hi:PE X i ty)(hs:Nl i):PE X (.Subscript o i pos) (Oa td ty):=by
 intro pins s Y H Q I h;refine vi PySem.F.slot_dict_getitem.lookup hs (thn (ho pins s Y H _ I h) fun u s1 ⟨x,H1,I1,rx,q1⟩=>thn (hi pins s1 Y H1 _ I1 q1) fun iv s2 hZ=>?_);obtain⟨y,H2,I2,ry,a,v,ex,g,q2⟩:=hZ;subst ex;obtain rfl:u=Value.ref a:=rx;exact⟨zt I2 g,FC hu I2 g ry fun w' s3 I3 rw'=>⟨v,H2,I3,rw',q2⟩⟩
theorem Bj(hu:X.A.units+1<cLine)(hi:PE X i ty)(ho:PE X o td):PC X .In i o (U3 ty td):=by
 intro pins s Y H Q I h;refine thn (hi pins s Y H _ I h) fun iv s1 ⟨y,H1,I1,ry,q1⟩=>thn (ho pins s1 Y H1 _ I1 q1) fun u s2 hZ=>?_
 obtain⟨x,H2,I2,rx,a,ov,ex,g,q2⟩:=hZ;subst ex;obtain rfl:u=Value.ref a:=rx;exact YH hu I2 g ry fun s3 I3=>⟨.bl ov.isSome,H2,I3,rfl,q2⟩
theorem Eu(hu:X.A.units+1<cLine)(hi:PE X i ty)(ho:PE X o td):PC X .NotIn i o (LI ty td):=by
 intro pins s Y H Q I h;refine thn (hi pins s Y H _ I h) fun iv s1 ⟨y,H1,I1,ry,q1⟩=>thn (ho pins s1 Y H1 _ I1 q1) fun u s2 hZ=>?_
 obtain⟨x,H2,I2,rx,a,ov,ex,g,q2⟩:=hZ;subst ex;obtain rfl:u=Value.ref a:=rx;exact M8 hu I2 g ry fun s3 I3=>⟨.bl (!ov.isSome),H2,I3,rfl,q2⟩
theorem Df(hu:X.A.units+1<cLine)(ho:PE X o td)(hi:PE X i ty)(hv:PE X value tv)(hs:swapsWith value (some (.Subscript o i pos')) pos.line X.env=pure false):
  PS X (.Assign [.Subscript o i pos'] value pos) (Vb td ty tv):=by
 intro pins s Y H D I h;refine wpAny_Assign_Subscript (thn (hv pins s Y H _ I h) fun r s1 ⟨v,H1,I1,rv,q1⟩=>thn (ho pins s1 Y H1 _ I1 q1) fun u s2 ⟨x,H2,I2,rx,q2⟩=>thn (hi pins s2 Y H2 _ I2 q2) fun iv s3 hZ=>?_) hs;obtain⟨y,H3,I3,ry,a,H4,ex,g,q3⟩:=hZ;subst ex;obtain rfl:u=Value.ref a:=rx;exact FA hu I3 g ry rv fun s4 I4=>⟨Y,H4,I4,q3⟩
end
theorem Jp{P:Program}{w:World}{H:Hp}(h:Heap)(hb:sysModules<h.objs.size):b9 P w H (h.push {cls:=.type "dict",data:=.dict #[]}) h.objs.size (.dK []):=
 ⟨zero_le _,beq_eq_false_iff_ne.mpr (Ne.symm (ne_of_lt hb)),[],.nil,Heap.DictOf.new h⟩
def QU:TE:=fun _ H Q=>∀p,H p=none->Q (.ref p) (upd H p (.dK []))
section
variable{X:Cx}{pos:Pos}
theorem ye:PE X (.Dict [] [] pos) QU:=fun pins s Y H Q I h=>
 wpAny_Dict_empty ⟨.ref s.heap.objs.size,_,I.laid (a:=s.heap.objs.size) (o:=.dK []) (t':=s.toks) (fun _ _ q=>Heap.get?_push_of_some _ q) (le_refl _) (Jp s.heap I.big),rfl,h _ (I.hok.fresh (le_refl _))⟩
end
structure M2(X:Cx)(o:Expr)(m:Str)(apos:Pos)(e f:Expr)(gS:Pos):Prop where
 base:attributeBase o m X.env (eval o X.env)=eval o X.env
 few:((backTo gS (starEach [e,f] X.env)).all (fun x=>!x.1)&&(backToKw gS (keywordEach [] X.env)).all (fun x=>x.1.isSome)
  && decide (([e,f]:List Expr).length+([]:List Keyword).length+(if ([]:List Keyword).isEmpty then 0 else 1)<30))=true
 line:(apos.endLine==gS.line)=true
 trees:backTo gS (starEach [e,f] X.env)=[(false,eval e X.env),(false,eval f X.env)]
def IsD(H:Hp)(a:Addr):Prop:=(∃kvs,Rd H a (.dK kvs))\/∃kvs,Rd H a (.dT kvs)
theorem TY{X:Cx}{pins:List (Addr×Obj)}{Y:St}{H:Hp}{s:Shared}{a:Addr}(I:Inv X pins Y H s)(d:IsD H a):
  s.TypeIs (.ref a) "dict"/\(∀b,Value.ref a=.ref b->∃ob,s.heap.get? b=some ob/\ob.dict=none)/\(a==sysModules)=false:=by
 rcases d with⟨kvs,e⟩|⟨kvs,e⟩
 .obtain⟨_,hd,vs,_,dd⟩:=r9 I.hok e;refine⟨dd.typeIs,fun b q=>?_,hd⟩;cases q;obtain⟨ob,_,_,h1,h2,_⟩:=dd;exact⟨ob,h1,h2.2.1⟩
 .obtain⟨_,hd,xs,_,dd⟩:=rZ I.hok e;refine⟨dd.typeIs,fun b q=>?_,hd⟩;cases q;obtain⟨ob,_,_,h1,h2,_⟩:=dd;exact⟨ob,h1,h2.2.1⟩
section
variable{X:Cx}{pins:List (Addr×Obj)}{Y:St}{H:Hp}{s:Shared}{a:Addr}{y d:V}{u r:Value}{o:Option V}{A:Around}{E:Value->Shared->Prop}
theorem UD{Q:Value->Shared->Prop}(hu:A.units+1<cLine)(I:Inv X pins Y H s)(g:fY H a y o)(ry:RelV y u)(rd:RelV d r)(h:∀w' s',Inv X pins Y H s'->RelV (o.getD d) w'->Q w' s'):
  wpAny (model X.prog X.w) A (call (.builtin "dict.get") [.ref a,u,r]) Q E s:=by
 rcases g with⟨kvs,k,e,ey,l⟩|⟨kvs,k,b,e,ey,eb,l⟩
 .subst ey;obtain⟨z,hd,vs,rel,dd⟩:=r9 I.hok e;refine call_meetsIn PySem.F.slot_dict_get dd.typeIs PySem.F.entry_dict_get (PySem.F.args_dict_get_3 _ _ _) (meets_dict_get_default (bt X.prog X.w) a (rE ry) hd r) ⟨_,dd.mapOf,h _ _ (I.tok _) ?_⟩;rw[l];exact(rel.val k).getD rd
 .subst ey;cases(show u=Value.ref b from ry);obtain⟨z,hd,xs,rel,dd⟩:=rZ I.hok e;refine call_meetsIn PySem.F.slot_dict_get dd.typeIs PySem.F.entry_dict_get (PySem.F.args_dict_get_3 _ _ _) (meetsH_dict_get_default (tupleKind (bt X.prog X.w)) a b hd r) ⟨tupleKind_room_in1 hu,k,xs,l3 I.hok eb,dd,h _ _ (I.tok _) ?_⟩;rw[l];exact(rel.val k).getD rd
end
def QX(td ty tx:TE):TE:=fun Y H Q=>td Y H fun x H1=>∃a,x=.ref a/\IsD H1 a/\ty Y H1 fun y H2=>tx Y H2 fun z H3=>∃o,fY H3 a y o/\Q (o.getD z) H3
section
variable{X:Cx}{o e f:Expr}{apos gS:Pos}{td ty tx:TE}
theorem mF(hu:X.A.units+1<cLine)(ho:PE X o td)(he:PE X e ty)(hf:PE X f tx)(m:M2 X o "get" apos e f gS):PE X (.Call (.Attribute o "get" apos) [e,f] [] gS) (QX td ty tx):=by
 intro pins s Y H Q I h;refine wpAny_Call_method m.base m.few m.line PySem.F.plainAttrs_dict PySem.F.slot_dict_get PySem.F.type_dict_get (thn (ho pins s Y H _ I h) fun u s1 hZ=>?_);obtain⟨x,H1,I1,rx,a,ex,d,q1⟩:=hZ;subst ex;obtain rfl:u=Value.ref a:=rx;obtain⟨t1,t2,_⟩:=TY I1 d;refine⟨t1,t2,?_⟩;rw[m.trees];refine Calls.callWith_builtin rfl (Calls.evalArgs_plain (Calls.spliced_cons (thn (he pins s1 Y H1 _ I1 q1) fun iv s2 ⟨y,H2,I2,ry,q2⟩=>
  Calls.spliced_cons (thn (hf pins s2 Y H2 _ I2 q2) fun fv s3 ⟨z,H3,I3,rz,ov,g,q3⟩=>Calls.spliced_nil ?_))))
 exact UD hu I3 g ry rz fun w' s4 I4 rw'=>⟨_,H3,I4,rw',q3⟩
end
theorem sC:bootBuiltins "reversed"=some (.type "reversed"):=by decide +kernel
section
variable{X:Cx}{pins:List (Addr×Obj)}{Y:St}{H:Hp}{s:Shared}{h':Heap}
theorem Inv.LF{t':Nat}{ch:List Addr}(I:Inv X pins Y H s)(k:∀b o,b∉ch->s.heap.get? b=some o->h'.get? b=some o)(hf:∀b∈ch,pH X pins H b):Inv X pins Y H {s with heap:=h',toks:=t'}:=by
 have nit:∀b u,H b=some u->b∉ch:=fun b u e z=>by
  have q:=(hf b z).1;rw[q]at e;cases e
 refine I.step (g':=s.gens) (d':=s.drawn) (ch:=ch) (fun b hb=>⟨(hf b hb).2.2.2.1,(hf b hb).2.1,(hf b hb).2.2.2.2.1,(hf b hb).2.2.2.2.2⟩) (fun b o _ _ hc e _=>k b o hc e) (fun b o _ _ hc e _=>⟨o.slots,k b o hc e⟩)
  (fun _ _ _ _ n=>n) (fun b o hc e=>⟨o,k b o hc e⟩) (fun _ _ e=>e) (fun _ _ _ e=>e) (fun b ps e=>⟨#[],by rw[e];simp⟩) (fun m hm=>?_) (fun b u e=>?_) I.bare
 .obtain⟨o,es,ep,ho,r⟩:=hm;exact⟨o,es,ep,k _ o (fun z=>(hf _ z).2.1 rfl) ho,r⟩
 .refine(I.hok b u e).nN (fun c v hc q=>k c v ?_ q) (fun _ q=>q) fun _ _ q=>q
  rcases hc with z|z
  .rw[z];exact nit b u e
  .exact nit c _ z
theorem Inv.D1{t':Nat}{ch:List Addr}{T:Addr}{ob:HO}(I:Inv X pins Y H s)(k:∀b o,b∉ch->s.heap.get? b=some o->h'.get? b=some o)(hf:∀b∈ch,pH X pins H b)(hT:s.heap.objs.size<=T)
  (new:b9 X.prog X.w (upd H T ob) h' T ob):Inv X pins Y (upd H T ob) {s with heap:=h',toks:=t'}:=by
 have hn:H T=none:=I.hok.fresh hT;have nit:∀b u,H b=some u->b∉ch:=fun b u e z=>by
  have q:=(hf b z).1;rw[q]at e;cases e
 refine I.step (g':=s.gens) (d':=s.drawn) (ch:=ch) (fun b hb=>⟨(hf b hb).2.2.2.1,(hf b hb).2.1,(hf b hb).2.2.2.2.1,(hf b hb).2.2.2.2.2⟩) (fun b o _ _ hc e _=>k b o hc e) (fun b o _ _ hc e _=>⟨o.slots,k b o hc e⟩)
  (fun b o _ e n=>?_) (fun b o hc e=>⟨o,k b o hc e⟩) (fun b xs e=>?_) (fun b o u e=>?_) (fun b ps e=>⟨#[],?_⟩) (fun m hm=>?_) (fun b u e=>?_) I.bare
 .rw[aq (ne_of_lt (lt_of_lt_of_le (Heap.lt_size e) hT))];exact n
 .rw[aq (ak e hn)];exact e
 .rw[aq (ak e hn)];exact e
 .rw[aq (ak e hn),e];simp
 .obtain⟨o,es,ep,ho,r⟩:=hm;exact⟨o,es,ep,k _ o (fun z=>(hf _ z).2.1 rfl) ho,r⟩
 .by_cases hb:b=T
  .subst hb;rw[ae]at e;cases e;exact new
  .rw[aq hb]at e;refine(I.hok b u e).nN (fun c v hc q=>k c v ?_ q) (fun c q=>by rw[aq (ak q hn)];exact q) fun c xs q=>by rw[aq (ak q hn)];exact q
   rcases hc with z|z
   .rw[z];exact nit b u e
   .exact nit c _ z
theorem Inv.lock{d:Addr}{u:HO}(I:Inv X pins Y H s)(h:H d=some u)(mu:Mut (some u)):∃od,Inv X pins Y (upd H d (.frz od u)) s:=by
 have x:=I.hok d u h;have ex:∃od,s.heap.get? d=some od:=by
  cases u with
  |lst xs=>obtain⟨_,_,_,_,e⟩:=x;exact⟨_,e⟩
  |dK kvs=>obtain⟨_,_,_,_,o,_,_,e,_⟩:=x;exact⟨o,e⟩
  |dT kvs=>obtain⟨_,_,_,_,o,_,_,e,_⟩:=x;exact⟨o,e⟩
  |set S n=>obtain⟨o,_,_,_,e,_⟩:=x;exact⟨o,e⟩
  |ins C dx fs=>obtain⟨_,_,_,e,_⟩:=x;exact⟨_,e⟩
  |ext G=>obtain⟨_,⟨_,e⟩,_⟩:=x;exact⟨_,e⟩
  |_=>exact False.elim mu
 obtain⟨od,e⟩:=ex;have new:b9 X.prog X.w (upd H d (.frz od u)) s.heap d (.frz od u):=by
  refine⟨e,x.nN (fun b v _ q=>q) (fun b q=>?_) fun b xs q=>?_⟩
  .rw[aq (fun z=>by rw[z,h]at q;cases q;exact mu)];exact q
  .rw[aq (fun z=>by rw[z,h]at q;cases q;exact mu)];exact q
 exact⟨od,I.write (x:=d) (e:=d) (t':=s.toks) (h':=s.heap) (by rw[h];exact mu) (.inl rfl) (fun b v _ q=>q) ⟨od,e⟩ new⟩
theorem Inv.Dm{d:Addr}{u:HO}(I:Inv X pins Y H s)(h:H d=some u)(mu:Mut (some u)):∀o' u',X.H₀ d≠some (.frz o' u'):=fun o' u' e=>by
 have q:=I.base.kj d o' u' e;rw[h]at q;cases q;exact mu
theorem Inv.unlock{d:Addr}{od:Obj}{u:HO}(I:Inv X pins Y H s)(h:H d=some (.frz od u))(hn:∀o' u',X.H₀ d≠some (.frz o' u')):Inv X pins Y (upd H d u) s:=by
 have neH:∀b o,H b=some o->(∀o' u',o≠.frz o' u')->b≠d:=fun b o e hne z=>by
  rw[z,h]at e;cases e;exact hne _ _ rfl
 have neN:∀b,H b=none->b≠d:=fun b e z=>by rw[z,h]at e;cases e
 refine⟨I.ok,I.os,I.bare,⟨I.base.keep,I.base.slot,fun b o e n hx=>?_,I.base.there,fun b xs e=>?_,fun b o x e=>?_,fun b ps e=>?_⟩,I.loc,I.cell,?_,fun x c e=>?_,fun p hp=>?_,fun b o e=>?_,I.len⟩
 .rw[aq (neN b (I.base.free b o e n hx))];exact I.base.free b o e n hx
 .have q:=I.base.lI b xs e;rw[aq (neH b _ q (fun _ _ z=>nomatch z))];exact q
 .have q:=I.base.kj b o x e;rw[aq (fun z=>by rw[z]at e;exact hn _ _ e)];exact q
 .obtain⟨m,q⟩:=I.base.kS b ps e;exact⟨m,by rw[aq (neH b _ q (fun _ _ z=>nomatch z))];exact q⟩
 .rw[aq (neN _ I.free)];exact I.free
 .rw[aq (neN c (I.fw x c e))];exact I.fw x c e
 .obtain⟨e,n,r⟩:=I.pin p hp;exact⟨e,by rw[aq (neN _ n)];exact n,r⟩
 .by_cases hb:b=d
  .rw[hb,ae]at e;cases e;rw[hb];obtain⟨_,x⟩:=I.hok d _ h;exact x.nN (fun c v _ q=>q) (fun c q=>by rw[aq (neH c _ q (fun _ _ z=>nomatch z))];exact q) fun c xs q=>by rw[aq (neH c _ q (fun _ _ z=>nomatch z))];exact q
  .rw[aq hb]at e;exact(I.hok b o e).nN (fun c v _ q=>q) (fun c q=>by rw[aq (neH c _ q (fun _ _ z=>nomatch z))];exact q) fun c xs q=>by rw[aq (neH c _ q (fun _ _ z=>nomatch z))];exact q
end
def U1(t:TS):TS:=fun D Y H=>∃d u,H d=some u/\Mut (some u)/\∀od,t ⟨fun Y' H'=>H' d=some (.frz od u)/\D.nx Y' (upd H' d u),fun v H'=>H' d=some (.frz od u)/\D.rt v (upd H' d u),fun Y' H'=>H' d=some (.frz od u)/\D.bk Y' (upd H' d u),fun Y' H'=>H' d=some (.frz od u)/\D.ct Y' (upd H' d u)⟩ Y (upd H d (.frz od u))
section
variable{X:Cx}
theorem L8{st:Stmt}{t:TS}(h:PS X st t):PS X st (U1 t):=by
 intro pins s Y H D I hw;obtain⟨d,u,hd,mu,hw⟩:=hw;obtain⟨od,I1⟩:=I.lock hd mu;refine thn (h pins s Y _ _ I1 (hw od)) fun f s1 q=>?_
 cases f with
 |next=>obtain⟨Y',H',I2,e,q⟩:=q;exact⟨Y',_,I2.unlock e (I.Dm hd mu),q⟩
 |brk=>obtain⟨Y',H',I2,e,q⟩:=q;exact⟨Y',_,I2.unlock e (I.Dm hd mu),q⟩
 |cont=>obtain⟨Y',H',I2,e,q⟩:=q;exact⟨Y',_,I2.unlock e (I.Dm hd mu),q⟩
 |ret v=>obtain⟨x,Y',H',I2,r,e,q⟩:=q;exact⟨x,Y',_,I2.unlock e (I.Dm hd mu),r,q⟩
theorem qM{tg:Expr}{pins:List (Addr×Obj)}{Y:St}{H:Hp}{s:Shared}{R:It->Hp->Prop}{J:It}{tn:Nat->Heap->Prop}{tk:Nat}(I:Inv X pins Y H s)(o:Obj)
  (T:Turn X.prog X.w X.K tg J [s.heap.objs.size] s.heap.objs.size tn) (st:tn 0 (s.heap.push o)) (q:R J H):PIE X pins Y tg R (.ref s.heap.objs.size) {s with heap:=s.heap.push o,toks:=tk}:=by
 refine⟨s.heap.objs.size,[s.heap.objs.size],tn,J,H,rfl,I.kept fun b ob e=>Heap.get?_push_of_some _ e,T,st,fun b hb=>?_,q⟩;have e:b=s.heap.objs.size:=by simpa using hb
 subst e;exact I.Ft (le_refl _) (I.hok.fresh (le_refl _))
end
def Itc(lo c:Int)(n:Nat):It:=⟨fun i _=>i<n,fun i H x H'=>H'=H/\x=.int (lo+(i:Nat)*c),fun i _=>n<=i⟩
theorem xu{P:Program}{w:World}{K:Frag}{tg:Expr}(it:Addr)(lo c:Int)(n:Nat):Turn P w K tg (Itc lo c n) [it] it (fun i h=>IsRangeIter h it (lo+(i:Nat)*c) ((n:Int)-(i:Nat)) c) where
 mem:=by simp
 obj:=fun i h st b hb=>by
  have e:b=it:=by simpa using hb
  subst e;exact⟨_,st,fun v z=>nomatch z⟩
 keep:=fun i h h' st k=>k it (by simp) _ st
 item:=by
  intro X hP hw hK hc i pins s Y H E I hf st hg;subst hP hw hK;obtain⟨f0,f1,f2,f3,f4,f5⟩:=hf it (by simp);have W:=Walks.range (prog:=X.prog) (w:=X.w) (I.ok.hd hc) it lo c n;refine W.item i s _ _ hg st fun v h' tk hv st' kk=>?_
  obtain⟨t,rfl⟩:=hv;have I1:Inv X pins Y H {s with heap:=h',toks:=tk}:=I.turned (fun b o hb e=>kk b o (by simpa using hb) e) f0 f1 f3 f4 f5;exact⟨_,rfl,rS (s:={s with heap:=h',toks:=tk}) (n:="range_iterator") st' rfl rfl (by decide) ⟨.int (lo+(i:Nat)*c),H,I1,⟨t,rfl⟩,⟨rfl,rfl⟩,st',fun b hb=>(hf b hb).1⟩⟩
 done:=by
  intro X hP hw hK hc i pins s Y H E I hf st hg;subst hP hw hK;obtain⟨f0,f1,f2,f3,f4,f5⟩:=hf it (by simp);exact wpAny_pyNext_range_end (I.ok.hd hc) st (by have:n<=i:=hg;omega) fun h' eb=>⟨rfl,I.turned (t':=s.toks) (fun b o hb e=>eb b o hb e) f0 f1 f3 f4 f5⟩
 self:=fun A i s Q E st h=>wpAny_pyIter_rangeiter st h
def RgC(i j c:Int)(n:Nat):Prop:=c≠0/\c.natAbs<1073741824/\Builtin.Range.small i j c=true/\Builtin.Range.rangeSize i j c=n
def VR(ta:TA):TI:=fun Y H R=>ta Y H fun vs H1=>∃(i j c:Int)(n:Nat),vs=[.int i,.int j,.int c]/\RgC i j c n/\R (Itc i c n) H1
section
variable{X:Cx}{tg:Expr}
theorem nY{a b c:Expr}{ta:TA}{p pos:Pos}(hg:Gl X "range")(hm:X.mg "range"=none)(ha:PA X [a,b,c] ta)
  (hs:starEach [a,b,c] X.env=(false,eval a X.env)::starEach [b,c] X.env:=by rfl) (hpl:(backTo pos (starEach [b,c] X.env)).any (·.1)=false:=by rfl):
  PI X tg (.Call (.Name "range" p) [a,b,c] [] pos) (VR ta):=by
 intro pins s Y H R I h;refine Call_ (jh I hg hm boot_range (PyProof.Rows.callWith_type1 (thn (ha pos pins s Y H _ I h) fun us s1 hZ=>?_) hs hpl));obtain⟨vs,H1,I1,r1,q1⟩:=hZ;obtain⟨i,j,k,n,e,⟨c0,c1,c2,c3⟩,q⟩:=q1;subst e;cases r1 with
 |cons r rr=>
  cases rr with
  |cons r' rr=>
   cases rr with
   |cons r'' rr=>
    cases rr;obtain⟨t,rfl⟩:=r;obtain⟨t',rfl⟩:=r';obtain⟨t'',rfl⟩:=r'';refine call_range_3 c0 ?_ (.inl (PyProof.noPylong_small c1));refine wpAny_pyIter_range (IsRange.new ..) c2 ?_;have I2:Inv X pins Y H1 {s1 with heap:=s1.heap.push {cls:=.type "range",data:=.fields #[.int i t,.int j t',.int k t'']}}:=I1.kept (t':=s1.toks) fun b o e=>Heap.get?_push_of_some _ e
    refine qM (tk:=s1.toks) I2 _ (xu _ i k n) ?_ q;have e1:i+((0:Nat):Int)*k=i:=by simp
    have e2:(n:Int)-((0:Nat):Int)=Builtin.Range.rangeSize i j k:=by rw[c3];simp
    show IsRangeIter _ _ (i+((0:Nat):Int)*k) ((n:Int)-((0:Nat):Int)) k;rw[e1,e2];exact Heap.get?_push_size _ rfl
end
def Itv(K:Frag)(a:Addr)(n:Nat):It:=
 ⟨fun i H=>i<n/\∃(xs:List V)(x:V),SqL K H a xs/\xs[n-1-i]?=some x,fun i H x H'=>H'=H/\∀xs,SqL K H a xs->xs[n-1-i]?=some x,fun i _=>n<=i⟩
theorem F6{P:Program}{w:World}{K:Frag}{tg:Expr}(a it:Addr)(n:Nat):Turn P w K tg (Itv K a n) [it] it (fun i h=>i<=n/\h.IsRevIter it a ((n:Int)-1-(i:Nat))) where
 mem:=by simp
 obj:=fun i h st b hb=>by
  have e:b=it:=by simpa using hb
  subst e;obtain⟨_,o,e,c,d⟩:=st;exact⟨o,e,fun v z=>by rw[d]at z;cases z⟩
 keep:=fun i h h' st k=>⟨st.1,st.2.at fun o e=>k it (by simp) o e⟩
 item:=by
  intro X hP hw hK hc i pins s Y H E I hf st hg;subst hP hw hK;obtain⟨hin,xs,x,hq,hx⟩:=hg;obtain⟨its,rv,p,hz⟩:=I.list hq;obtain⟨u,hu,ru⟩:=rv.get hx;obtain⟨f0,f1,f2,f3,f4,f5⟩:=hf it (by simp);obtain⟨_,hit⟩:=st;have e1:(n:Int)-1-((i:Nat):Int)=((n-1-i:Nat):Int):=by omega
  rw[e1]at hit;refine wpAny_pyNext_rev_item hit p.isList (x:=u) (by simpa using hu) fun h' st' sb=>?_
  have e2:((n-1-i:Nat):Int)-1=(n:Int)-1-((i+1:Nat):Int):=by omega
  rw[e2]at st';have I1:Inv X pins Y H {s with heap:=h'}:=I.turned (t':=s.toks) (fun b o hb e=>(sb.2 b hb).trans e) f0 f1 f3 f4 f5;obtain⟨o,e,c,d⟩:=id st';exact⟨u,rfl,rS (s:={s with heap:=h'}) e c d (by decide) ⟨x,H,I1,ru,⟨rfl,fun ys hy=>by rw[I.rC hy hq];exact hx⟩,⟨hin,st'⟩,fun b hb=>(hf b hb).1⟩⟩
 done:=by
  intro X hP hw hK hc i pins s Y H E I hf st hg;subst hP hw hK;obtain⟨f0,f1,f2,f3,f4,f5⟩:=hf it (by simp);obtain⟨hin,hit⟩:=st;have hge:n<=i:=hg;have e1:(n:Int)-1-((i:Nat):Int)=-1:=by omega
  rw[e1]at hit;exact wpAny_pyNext_rev_end (I.ok.hd hc) hit fun h' eb=>⟨rfl,I.turned (t':=s.toks) (fun b o hb e=>eb b o hb e) f0 f1 f3 f4 f5⟩
 self:=fun A i s Q E st h=>wpAny_pyIter_revIter st.2 h
def Xv(K:Frag)(ta:TA):TI:=fun Y H R=>ta Y H fun vs H1=>∃(a:Addr)(xs:List V),vs=[.ref a]/\SqL K H1 a xs/\R (Itv K a xs.length) H1
section
variable{X:Cx}{tg:Expr}
theorem yd{e:Expr}{ta:TA}{p pos:Pos}(hg:Gl X "reversed")(hm:X.mg "reversed"=none)(ha:PA X [e] ta)(hs:starEach [e] X.env=[(false,eval e X.env)]:=by rfl):PI X tg (.Call (.Name "reversed" p) [e] [] pos) (Xv X.K ta):=by
 intro pins s Y H R I h;refine Call_ (jh I hg hm sC (PyProof.Rows.callWith_type1 (thn (ha pos pins s Y H _ I h) fun us s1 hZ=>?_) hs rfl));obtain⟨vs,H1,I1,r1,q1⟩:=hZ;obtain⟨a,xs,e,hq,q⟩:=q1;subst e;cases r1 with
 |cons r rr=>
  cases rr;cases r;obtain⟨its,rv,p',hz⟩:=I1.list hq;have hl:=rv.length;have e1:((its.toArray.size:Nat):Int)-1=(xs.length:Int)-1-((0:Nat):Int):=by simp only[size_toArray];omega
  refine call_reversed_list p'.isList (wpAny_pyIter_revIter (l:=a) (i:=((its.toArray.size:Nat):Int)-1) ⟨_,Heap.get?_push_size _ rfl,rfl,rfl⟩ ?_);refine qM (tk:=s1.toks) I1 _ (F6 a _ xs.length) ⟨zero_le _,?_⟩ q;rw[<-e1];exact⟨_,Heap.get?_push_size _ rfl,rfl,rfl⟩
end
def Its(x:Str):It:=⟨fun i _=>i<x.cps.size,fun i H v H'=>H'=H/\∃c,x.cps[i]?=some c/\v=.str ⟨#[c]⟩,fun i _=>x.cps.size<=i⟩
theorem xt{P:Program}{w:World}{K:Frag}{tg:Expr}(it:Addr)(x:Str)(t:Tok)(ty:String)(hty:ty="str_ascii_iterator"\/ty="str_iterator"):
  Turn P w K tg (Its x) [it] it (fun i h=>h.IsStrIter it ty x t i) where
 mem:=by simp
 obj:=fun i h st b hb=>by
  have e:b=it:=by simpa using hb
  subst e;obtain⟨o,e,c,d⟩:=st;exact⟨o,e,fun v z=>by rw[d]at z;cases z⟩
 keep:=fun i h h' st k=>let ⟨o,ho,r⟩:=st;⟨o,k it (by simp) o ho,r⟩
 item:=by
  intro X hP hw hK hc i pins s Y H E I hf st hg;subst hP hw hK;obtain⟨f0,f1,f2,f3,f4,f5⟩:=hf it (by simp);have W:Walks X.prog X.w X.A it [it] [it] x.cps.size (SignAt x) (fun i h=>h.IsStrIter it ty x t i):=by
   rcases hty with e|e
   .rw[e];exact Walks.strAscii (I.ok.hd hc) it x t
   .rw[e];exact Walks.strWide (I.ok.hd hc) it x t
  have hno:["enumerate","zip","dict_itemiterator","dict_reverseitemiterator","odict_iterator","itertools.zip_longest","itertools.pairwise"].contains ty=false:=by
   rcases hty with e|e
   .rw[e];decide
   .rw[e];decide
  refine W.item i s _ _ hg st fun v h' tk hv st' kk=>?_
  obtain⟨c,u,hcx,rfl⟩:=hv;have I1:Inv X pins Y H {s with heap:=h',toks:=tk}:=I.turned (fun b o hb e=>kk b o (by simpa using hb) e) f0 f1 f3 f4 f5;obtain⟨oi,e,cc,dd⟩:=id st';exact⟨_,rfl,rS (s:={s with heap:=h',toks:=tk}) e cc dd hno ⟨.str ⟨#[c]⟩,H,I1,⟨u,rfl⟩,⟨rfl,c,hcx,rfl⟩,st',fun b hb=>(hf b hb).1⟩⟩
 done:=by
  intro X hP hw hK hc i pins s Y H E I hf st hg;subst hP hw hK;obtain⟨f0,f1,f2,f3,f4,f5⟩:=hf it (by simp);have hx:x.cps[i]?=none:=Array.getElem?_eq_none hg;rcases hty with e|e
  .rw[e]at st;exact wpAny_pyNext_ascii_end (I.ok.hd hc) st hx fun h' eb=>⟨rfl,I.turned (t':=s.toks) (fun b o hb e=>eb b o hb e) f0 f1 f3 f4 f5⟩
  .rw[e]at st;exact wpAny_pyNext_wide_end (I.ok.hd hc) st hx fun h' eb=>⟨rfl,I.turned (t':=s.toks) (fun b o hb e=>eb b o hb e) f0 f1 f3 f4 f5⟩
 self:=fun A i s Q E st h=>by
  rcases hty with e|e
  .rw[e]at st;exact wpAny_pyIter_striter_ascii st h
  .rw[e]at st;exact wpAny_pyIter_striter_wide st h
def Xu(te:TE):TI:=fun Y H R=>te Y H fun v H1=>∃x,v=.str x/\R (Its x) H1
theorem RS{X:Cx}{tg e:Expr}{te:TE}(he:PE X e te):PI X tg e (Xu te):=by
 intro pins s Y H R I h;refine thn (he pins s Y H _ I h) fun v s1 hZ=>?_
 obtain⟨y,H1,I1,r1,x,ex,q⟩:=hZ;subst ex;obtain⟨t,rfl⟩:=r1;cases ha:x.cps.all (·<128)
 .exact wpAny_pyIter_wide ha (qM (tk:=s1.toks) I1 _ (xt _ x t "str_iterator" (.inr rfl)) ⟨_,Heap.get?_push_size _ rfl,rfl,rfl⟩ q)
 .exact wpAny_pyIter_ascii ha (qM (tk:=s1.toks) I1 _ (xt _ x t "str_ascii_iterator" (.inl rfl)) ⟨_,Heap.get?_push_size _ rfl,rfl,rfl⟩ q)
section
variable{prog:Program}{w:World}{A:Around}{E:Value->Shared->Prop}{s:Shared}
theorem E6{d:Addr}{o:Obj}{es:Array DictEntry}{ep:Nat}{Q:Value->Shared->Prop}(hd:(d==sysModules)=false)(ho:s.heap.get? d=some o)(hc:o.ExactDict)(Wh:o.data=.dict es ep)
  (hQ:Q (.ref s.heap.objs.size) {s with heap:=s.heap.push {cls:=.type "dict_keyiterator",data:=.fields #[.ref d,.int 0 0,.int es.size 0,.int ep 0]}}):
  wpAny (model prog w) A (pyIter (.ref d)) Q E s:=by
 have hT:s.TypeIs (.ref d) "dict":=⟨o,ho,hc.1⟩;refine wpAny_pyIter_slot hT F.slot_dict_iter (wpAny_call_entry F.slot_dict_iter hT F.entry_dict_iter ?_ (F.args_dict_iter_1 _));unfold Builtin.«dict.__iter__»;refine wpAny_bind ?_;unfold Builtin.Dict.dictSlotNone;refine wpAny_bind (wpAny_notOrdered_dict hT ?_);show wpAny _ _ (pure (Value.ref d)) _ _ s;refine wpAny_pure ?_;show wpAny _ _ (Builtin.Dict.showsAll d >>= _) _ _ s;unfold Builtin.Dict.showsAll;rw[if_neg (by rw[hd];exact Bool.false_ne_true)];refine wpAny_bind (wpAny_pure ?_);refine wpAny_bind (wpAny_dictEntries ho Wh ?_);refine wpAny_bind (wpAny_dictEpoch ho Wh ?_);refine wpAny_bind (wpAny_newObj_type (wpAny_pure ⟨_,rfl,"dict_keyiterator",_,⟨_,Heap.get?_push_size _ rfl,rfl⟩,F.slot_dict_keyiterator_next.lookup,?_⟩));simpa [rawInt] using hQ
theorem tI{it d:Addr}{i n ep:Nat}{od:Obj}{es:Array DictEntry}{en:DictEntry}{Q:Option Value->Shared->Prop}(hit:s.heap.IsKeyIter it d i n ep)(hod:s.heap.get? d=some od)(hdd:od.data=.dict es ep)
  (hsz:es.size=n) (hx:es[i]?=some en) (hQ:∀h',h'.IsKeyIter it d (i+1) n ep->Heap.SameBut it s.heap h'->Q (some en.key) {s with heap:=h'}):wpAny (model prog w) A (pyNext (.ref it)) Q E s:=by
 obtain⟨o,ho,hc,hd⟩:=id hit;unfold pyNext;refine wpAny_bind (wpAny_attempt (wpAny_callSpecial?_slot (name:=Str.ofString "__next__") hit.typeIs F.slot_dict_keyiterator_next
  (wpAny_call_entry F.slot_dict_keyiterator_next hit.typeIs F.entry_dict_keyiterator_next ?_ (F.args_dict_keyiterator_next_1 _))))
 refine wpAny_bind (wpAny_pure ?_);refine wpAny_bind ?_;refine wpAny_bind ?_
 first|refine wpAny_bind (wpAny_typeNameOfWhole_keyiter hit.typeIs (wpAny_pure ?_))|refine wpAny_bind (wpAny_typeNameOf_keyiter hit.typeIs (wpAny_pure ?_))
 refine wpAny_bind (wpAny_fieldsOf ho hd ?_);have Ue:Builtin.Dict_items.ownsTuple "dict_keyiterator"=false:=by decide
 simp only[Ue,Bool.false_eq_true,if_false];show wpAny _ _ (if (Value.ref d==Value.none)=true then _ else _) _ _ s;rw[if_neg (show ¬((Value.ref d==Value.none)=true)from Bool.false_ne_true)];refine wpAny_bind (wpAny_pure ?_);refine wpAny_bind (wpAny_dictEntries hod hdd ?_);rw[if_neg (by rw[hsz];simp)];refine wpAny_bind (wpAny_pure ?_);refine wpAny_bind (wpAny_dictEpoch hod hdd ?_);rw[if_neg (by simp)];refine wpAny_pure ?_;obtain⟨X3,hen⟩:=Array.getElem?_eq_some_iff.mp hx;simp only[show ¬((i:Int)<0)from by omega,if_false,toNat_natCast,Array.getElem?_eq_getElem X3];refine wpAny_bind ?_
 first|refine wpAny_bind (wpAny_typeNameOfWhole_keyiter hit.typeIs (wpAny_pure ?_))|refine wpAny_bind (wpAny_typeNameOf_keyiter hit.typeIs (wpAny_pure ?_))
 refine wpAny_bind (wpAny_isOneOf_keyiter hit.typeIs ?_);show wpAny _ _ (setField (.ref it) 1 (rawInt ((i:Int)+1)) >>= _) _ _ s;refine wpAny_bind (wpAny_setField ho hd (by simp) ?_);have Wa:(s.heap.update it (Obj.mapFields (·.setIfInBounds 1 (rawInt ((i:Int)+1))))).IsKeyIter it d (i+1) n ep:=
  ⟨_,Heap.get?_update_self _ ho (Obj.isFreed_of_fields (Obj.data_mapFields hd _)),(Obj.cls_mapFields ..).trans hc,by rw[Obj.data_mapFields hd];simp[rawInt]⟩
 refine wpAny_bind (wpAny_holding ?_);refine wpAny_bind (wpAny_isOneOf_keyiter (s:={s with heap:=s.heap.update it (Obj.mapFields (·.setIfInBounds 1 (rawInt ((i:Int)+1))))}) Wa.typeIs ?_);show wpAny _ _ (pure es[i].key) _ _ _;rw[hen];exact wpAny_pure (wpAny_pure ⟨_,rfl,wpAny_pure (hQ _ Wa (Heap.SameBut.update ..))⟩)
theorem wj{it d:Addr}{i n ep:Nat}{od:Obj}{es:Array DictEntry}{Q:Option Value->Shared->Prop}(hh:A.handled=none)(hit:s.heap.IsKeyIter it d i n ep)(hod:s.heap.get? d=some od)(hdd:od.data=.dict es ep)
  (hsz:es.size=n) (hge:n<=i) (hQ:∀h',Heap.ExtBut it s.heap h'->Q none {s with heap:=h'}):wpAny (model prog w) A (pyNext (.ref it)) Q E s:=by
 obtain⟨o,ho,hc,hd⟩:=id hit;unfold pyNext;refine wpAny_bind (wpAny_attempt (wpAny_callSpecial?_slot (name:=Str.ofString "__next__") hit.typeIs F.slot_dict_keyiterator_next
  (wpAny_call_entry F.slot_dict_keyiterator_next hit.typeIs F.entry_dict_keyiterator_next ?_ (F.args_dict_keyiterator_next_1 _))))
 refine wpAny_bind (wpAny_pure ?_);refine wpAny_bind ?_;refine wpAny_bind ?_
 first|refine wpAny_bind (wpAny_typeNameOfWhole_keyiter hit.typeIs (wpAny_pure ?_))|refine wpAny_bind (wpAny_typeNameOf_keyiter hit.typeIs (wpAny_pure ?_))
 refine wpAny_bind (wpAny_fieldsOf ho hd ?_);have Ue:Builtin.Dict_items.ownsTuple "dict_keyiterator"=false:=by decide
 simp only[Ue,Bool.false_eq_true,if_false];show wpAny _ _ (if (Value.ref d==Value.none)=true then _ else _) _ _ s;rw[if_neg (show ¬((Value.ref d==Value.none)=true)from Bool.false_ne_true)];refine wpAny_bind (wpAny_pure ?_);refine wpAny_bind (wpAny_dictEntries hod hdd ?_);rw[if_neg (by rw[hsz];simp)];refine wpAny_bind (wpAny_pure ?_);refine wpAny_bind (wpAny_dictEpoch hod hdd ?_);rw[if_neg (by simp)];refine wpAny_pure ?_;have Yb:es.size<=i:=by rw[hsz];exact hge
 simp only[show ¬((i:Int)<0)from by omega,if_false,toNat_natCast,Array.getElem?_eq_none Yb];refine wpAny_bind ?_
 first|refine wpAny_bind (wpAny_typeNameOfWhole_keyiter hit.typeIs (wpAny_pure ?_))|refine wpAny_bind (wpAny_typeNameOf_keyiter hit.typeIs (wpAny_pure ?_))
 show wpAny _ _ (setField (.ref it) 0 .none >>= _) _ _ s;refine wpAny_bind (wpAny_setField ho hd (by simp) ?_);show wpAny _ _ (newExc (.type "StopIteration") [] >>= _) _ _ _;refine wpAny_bind ?_;simp only[newExc,newTuple];refine wpAny_bind (wpAny_newObj_type ?_ (by size_fits));refine wpAny_bind (m:=firstArgMember _ _) (wpAny_of_eq (a:=Value.none) (by first|rfl|(simp only[firstArgMember];rfl)) ?_);refine wpAny_newObj_type ?_ (by size_fits);simp only[raiseNew];refine wpAny_bind (wpAny_handled ?_);rw[show A.in1.handled=none from hh];refine wpAny_bind (wpAny_pure (wpAny_throw ?_));refine wpAny_bind (wpAny_isInstance (T:="StopIteration") (b:=true) ⟨_,Heap.get?_push_size _ rfl,rfl⟩ isSubtype_stop ?_);exact wpAny_pure (hQ _ (((Heap.SameBut.update ..).extBut.push _).push _))
end
theorem Bl{I L:Type}{G:I->L->Prop}{l₁:List I}{l₂:List L}(h:Paired G l₁ l₂):∀{i:Nat}{a:I},l₁[i]?=some a->∃b,l₂[i]?=some b/\G a b:=by
 induction h with
 |nil=>intro i a e;simp at e
 |@cons a b l₁ l₂ r t ih=>
  intro i a' e;cases i with
  |zero=>
   simp only[List.getElem?_cons_zero,Option.some.injEq]at e;subst e;exact⟨b,rfl,r⟩
  |succ j=>
   simp only[List.getElem?_cons_succ]at e ⊢;exact ih e
theorem DB{o:Obj}{es es':Array DictEntry}{ep ep':Nat}(h:o.data=.dict es ep)(h':o.data=.dict es' ep'):es'=es/\ep'=ep:=by
 rw[h]at h';cases h';exact⟨rfl,rfl⟩
theorem FV:bootBuiltins "zip"=some (.type "zip"):=by decide +kernel
end L2
section
namespace Bits
open PySem PyProof.Rows
end Bits
end
section
namespace TL
open PySem PySem.Builtin PySem.Builtin.Str PySem.StrLaws
abbrev tl(x:Str):List Nat:=x.cps.toList
theorem IG(x:Str):x.length=(tl x).length:=by simp[tl,Str.length]
theorem ox{x y:Str}(h:tl x=tl y):x=y:=Str.ext' (Array.toList_inj.mp h)
theorem nK(x y:Str):tl (x++y)=tl x++tl y:=by
 show(x++y).cps.toList=_;rw[Str.cps_append,Array.toList_append]
def pre(S l:List Nat):Bool:=l.take S.length==S
theorem Cr{x y:Str}(hy:tl y≠[])(i:Nat):At x y x.length i↔pre (tl y) ((tl x).drop i)=true:=by
 have hx:=IG x;have hl:=IG y;constructor
 .intro h;have h2:=h.2;rw[subAt_eq,hl]at h2;exact h2
 .intro h;have e:((tl x).drop i).take (tl y).length=tl y:=eq_of_beq h;have e1:=congrArg List.length e;rw[length_take,length_drop]at e1;have e2:0<(tl y).length:=length_pos_iff.mpr hy;refine⟨by omega,?_⟩;rw[subAt_eq,hl];exact h
theorem Pf{x y:Str}(hy:tl y≠[]){i:Nat}(h:¬At x y x.length i):pre (tl y) ((tl x).drop i)=false:=by
 cases hp:pre (tl y) ((tl x).drop i)with
 |false=>rfl
 |true=>exact absurd ((Cr hy i).mpr hp) h
def yF(S:List Nat):List (List Nat)->List Nat
 |[]=>[]
 |[p]=>p
 |p::q::r=>p++(S++yF S (q::r))
theorem CG(y:Str):∀parts:List Str,tl (Str.join y parts)=yF (tl y) (parts.map tl)
 |[]=>rfl
 |[_]=>rfl
 |x::z::r=>by
  show tl (x++y++Str.join y (z::r))=tl x++(tl y++yF (tl y) ((z::r).map tl));rw[nK,nK,CG y (z::r),append_assoc]
theorem join_eq(y:Str)(parts:List Str):Txt.join y parts=Str.join y parts:=glued_eq_join y parts
end TL
end
namespace L2
open PySem PySem.Spec PyProof.Rows
theorem Dl{n:Nat}(h:n<=16777216):Builtin.Str.tooLong n=false:=by
 have e:(2:Nat)^24=16777216:=by decide
 unfold Builtin.Str.tooLong sizeLine;exact decide_eq_false (by omega)
theorem iV:∀{ys:List Str}{us:List Value},Vals (ys.map V.str) us->StrsAre us ys
 |[],_,.nil=>.nil
 |y::ys,_,.cons r t=>by
  obtain⟨k,rfl⟩:=r;exact .cons y k (iV t)
section
variable{X:Cx}
theorem Ms:MtR X "str.join" (fun x xs H Q=>∃a p,∃ys:List Str,x=.str a/\xs=[.ref p]/\(SqL X.K H p (ys.map V.str)\/SqT X.K H p (ys.map V.str))/\
  (ys.map (·.length)).sum+ys.length*a.length<=16777216/\Q (.str (Txt.join a ys)) H):=by
 intro pins s Y H x xs v us Q I rx rs h;obtain⟨a,p,ys,rfl,rfl,hp,hz,h⟩:=h;obtain⟨t,rfl⟩:=rx;cases rs with
 |cons r1 rs=>
  cases rs;cases r1;rcases hp with hp|hp
  .obtain⟨its,r,⟨o,n,ho,hc,_,hd⟩,_⟩:=I.list hp;exact PyProof.Rows.join_list (items:=its.toArray) ⟨o,ho,hc,n,hd⟩ (by rw[List.toList_toArray];exact iV r) hz fun t' k=>⟨.str _,H,I.tok k,⟨t',rfl⟩,h⟩
  .obtain⟨its,r,ht,_⟩:=I.tuple hp;exact PyProof.Rows.join_tuple (items:=its.toArray) ht (by rw[List.toList_toArray];exact iV r) hz fun t' k=>⟨.str _,H,I.tok k,⟨t',rfl⟩,h⟩
theorem mt0{id:String}{C:Str->Prop}{g:Str->V}(rule:∀(a:Str)(t:Tok)(s:Shared)(Q:Value->Shared->Prop),C a->(∀(u:Value)(k:Nat),RelV (g a) u->Q u {s with toks:=k})->
  wpAny (model X.prog X.w) X.A (call (.builtin id) [.str a t]) Q X.xe s):MtR X id (fun x xs H Q=>∃a,x=.str a/\xs=[]/\C a/\Q (g a) H):=by
 intro pins s Y H x xs v us Q I rx rs h;obtain⟨a,rfl,rfl,hc,h⟩:=h;obtain⟨t,rfl⟩:=rx;cases rs;exact rule a t s _ hc fun u k r=>⟨g a,H,I.tok k,r,h⟩
theorem Io:MtR X "str.lower" (fun x xs H Q=>∃a,x=.str a/\xs=[]/\a.length<=5592405/\Q (.str (Txt.lower a)) H):=
 mt0 (C:=fun a=>a.length<=5592405) (g:=fun a=>.str (Txt.lower a)) fun a _ s _ hc h=>
  PySem.SC.lower (Dl (by have h1:a.length<=5592405:=hc;have:=PyProof.Rows.len_lower a;omega)) (h _ (s.toks+1) ⟨_,rfl⟩)
theorem j7:MtR X "str.upper" (fun x xs H Q=>∃a,x=.str a/\xs=[]/\a.length<=5592405/\Q (.str (Txt.upper a)) H):=
 mt0 (C:=fun a=>a.length<=5592405) (g:=fun a=>.str (Txt.upper a)) fun a _ s _ hc h=>
  PySem.SC.upper (Dl (by have h1:a.length<=5592405:=hc;have:=PyProof.Rows.len_upper a;omega)) (h _ (s.toks+1) ⟨_,rfl⟩)
theorem mt1{id:String}{g:Str->Str->V}(rule:∀(a b:Str)(t u:Tok)(s:Shared)(Q:Value->Shared->Prop),(∀(v:Value)(k:Nat),RelV (g a b) v->Q v {s with toks:=k})->
  wpAny (model X.prog X.w) X.A (call (.builtin id) [.str a t,.str b u]) Q X.xe s):MtR X id (fun x xs H Q=>∃a b,x=.str a/\xs=[.str b]/\Q (g a b) H):=by
 intro pins s Y H x xs v us Q I rx rs h;obtain⟨a,b,rfl,rfl,h⟩:=h;obtain⟨t,rfl⟩:=rx;cases rs with
 |cons r1 rs=>
  cases rs;obtain⟨u,rfl⟩:=r1;exact rule a b t u s _ fun v k r=>⟨g a b,H,I.tok k,r,h⟩
theorem Mt:MtR X "str.find" (fun x xs H Q=>∃a b,x=.str a/\xs=[.str b]/\Q (.int (Txt.find a b)) H):=
 mt1 (g:=fun a b=>.int (Txt.find a b)) fun _ _ _ _ s _ h=>PySem.SC.find (h _ (s.toks+1) ⟨_,rfl⟩)
theorem nh:iQ X (.type "int") (fun xs H Q=>∃a n,xs=[.str a]/\PySem.intText? a=some n/\a.length<=640/\Q (.int n) H):=by
 intro pins s Y H xs us Q I rs h;obtain⟨a,n,rfl,hn,hl,h⟩:=h;cases rs with
 |cons r1 rs=>
  cases rs;obtain⟨t,rfl⟩:=r1;exact PySem.W.KIN.call_text hn hl ⟨.int n,H,I.tok _,⟨_,rfl⟩,h⟩
end
section
variable{X:Cx}
theorem i8:OpR X (compareOp .In) (fun x y H Q=>∃(c:Nat)(z:Str),x=.str ⟨#[c]⟩/\y=.str z/\Q (.bl (decide (c∈z.cps.toList))) H):=by
 intro pins s Y H x y v u Q I rx ry h;obtain⟨c,z,rfl,rfl,q⟩:=h;obtain⟨t,rfl⟩:=rx;obtain⟨t',rfl⟩:=ry;exact PyProof.Rows.in_str (bA I q (PySem.StrLaws.found_one z c).symm)
end
theorem IsPart.raw{v:Value}{o:Option Int}(p:IsPart v o):∃l:Option (Int×Tok),v=partValue l/\l.map (·.1)=o:=by
 cases p with
 |none=>exact⟨none,rfl,rfl⟩
 |int i t=>exact⟨some (i,t),rfl,rfl⟩
def zY(n d:Nat):Option Int->Int
 |none=>(d:Int)
 |some i=>max 0 (min (if i<0 then i+(n:Int)else i) (n:Int))
theorem zX(n d:Nat)(o:Option Int):zY n d o=((HT.sIx n d o:Nat):Int):=by
 cases o with
 |none=>rfl
 |some v=>
  show max (0:Int) (min (if v<0 then v+(n:Int)else v) (n:Int))=(((if v<0 then(v+(n:Int)).toNat else min v.toNat n):Nat):Int);by_cases hv:v<0
  .simp only[if_pos hv];omega
  .simp only[if_neg hv];omega
theorem Ej(a b:Option Int)(n:Nat):Builtin.Str.strSliceIndices a b 1 n=sliceRange (zY n 0 a) (zY n n b) 1:=by
 have h1:((1:Int)>0)=True:=by simp
 cases a<;>cases b<;>first
  |rfl
  |(simp only[Builtin.Str.strSliceIndices,zY,h1,if_true];rfl)
  |simp[Builtin.Str.strSliceIndices,zY]
theorem WW(a b:Option Int)(n:Nat):Builtin.Str.strSliceIndices a b 1 n=(List.range (HT.sIx n n b-HT.sIx n 0 a)).map (fun k=>HT.sIx n 0 a+k):=by
 rw[Ej,zX,zX];generalize HT.sIx n 0 a=p;generalize HT.sIx n n b=q;simp only[sliceRange,show((1:Int)>0)=True from by simp,if_true];by_cases hlt:(p:Int)<q
 .have e3:(((q:Int)-p+1-1)/1).toNat=q-p:=by first|omega|(simp;done)|(simp;omega)
  simp only[hlt,if_true,e3];refine map_congr_left fun k _=>?_
  omega
 .have:q-p=0:=by omega
  simp[hlt,this]
def Cc(z:Str)(lo hi:Option Int):Str:=
 ⟨((z.cps.toList.drop (HT.sIx z.length 0 lo)).take (HT.sIx z.length z.length hi-HT.sIx z.length 0 lo)).toArray⟩
theorem ll(z:Str)(lo hi:Option Int):PySem.StrLaws.sliceText z lo hi=Cc z lo hi:=by
 have h1:HT.sIx z.length 0 lo<=z.length:=HT.Ba _ _ (zero_le _) _;have h2:HT.sIx z.length z.length hi<=z.length:=HT.Ba _ _ (le_refl _) _;have hp:HT.sIx z.length 0 lo<=max (HT.sIx z.length 0 lo) (HT.sIx z.length z.length hi):=Nat.le_max_left _ _;have hq:max (HT.sIx z.length 0 lo) (HT.sIx z.length z.length hi)<=z.length:=Nat.max_le.mpr ⟨h1,h2⟩;have hd:max (HT.sIx z.length 0 lo) (HT.sIx z.length z.length hi)-HT.sIx z.length 0 lo=HT.sIx z.length z.length hi-HT.sIx z.length 0 lo:=by omega
 have e:Builtin.Str.strSliceIndices lo hi 1 z.length =
   Builtin.Str.strSliceIndices (some ((HT.sIx z.length 0 lo:Nat):Int)) (some ((max (HT.sIx z.length 0 lo) (HT.sIx z.length z.length hi):Nat):Int)) 1 z.length:=by
  rw[PySem.StrLaws.strSliceIndices_plain hp hq,hd,WW]
 have e2:PySem.StrLaws.sliceText z lo hi =
   PySem.StrLaws.sliceText z (some ((HT.sIx z.length 0 lo:Nat):Int)) (some ((max (HT.sIx z.length 0 lo) (HT.sIx z.length z.length hi):Nat):Int)):=by
  unfold PySem.StrLaws.sliceText;rw[e]
 rw[e2,PySem.StrLaws.sliceText_nat z hp hq,hd];rfl
theorem zW(z:Str)(lo hi:Option Int):(Cc z lo hi).length<=z.length:=by
 show(((z.cps.toList.drop (HT.sIx z.length 0 lo)).take (HT.sIx z.length z.length hi-HT.sIx z.length 0 lo)).toArray).size<=z.cps.size;rw[size_toArray,length_take,length_drop,Array.length_toList];omega
def W6:V->Option Int->Option Int->Hp->VK->Prop:=fun x lo hi H Q=>∃z,x=.str z/\z.length<=sizeLine/\Q (.str (Cc z lo hi)) H
theorem Gy{X:Cx}:SlR X W6:=by
 intro pins s Y H x v vl vu lo hi sl Q I rx hs pl pu h;obtain⟨z,rfl,hz,q⟩:=h;obtain⟨t,rfl⟩:=rx;obtain⟨os,hos,hcs,hds⟩:=hs;obtain⟨l,rfl,rfl⟩:=IsPart.raw pl;obtain⟨u,rfl,rfl⟩:=IsPart.raw pu;refine⟨"str",_,F.slot_str_getitem.lookup,typeIs_str _ _ _,?_⟩;refine wpAny_getItem_str_slice (l:=l) (u:=u) (st:=none) ⟨os,hos,hcs,hds⟩ rfl ?_;have hl:(PySem.StrLaws.sliceText z (l.map (·.1)) (u.map (·.1))).length<=sizeLine:=by
  rw[ll];exact le_trans (zW z _ _) hz
 rw[<-ll]at q;unfold PySem.StrLaws.sliceText at q hl;show Made.post (if ((1:Int)==1&&(Builtin.Str.strSliceIndices (l.map (·.1)) (u.map (·.1)) 1 z.length).length==z.length)=true then Made.val (.str z t)
  else Made.str ⟨((Builtin.Str.strSliceIndices (l.map (·.1)) (u.map (·.1)) 1 z.length).filterMap (z.cps[·]?)).toArray⟩) (EP X pins Y Q) s
 by_cases c:((1:Int)==1&&(Builtin.Str.strSliceIndices (l.map (·.1)) (u.map (·.1)) 1 z.length).length==z.length)=true
 .rw[if_pos c]at q ⊢;exact⟨.str z,H,I,⟨t,rfl⟩,q⟩
 .rw[if_neg c]at q hl ⊢;exact⟨hl,.str _,H,I.tok _,⟨_,rfl⟩,q⟩
end L2
namespace Att
open PySem PySem.W PySem.Calls PyProof.Rows
theorem pD{P:Params}{h:Heap}:∀(ns:List Int)(vs:List Value),WellAll P h vs (ns.map WData.int)->IntsAre vs ns:=by
 intro ns;induction ns with
 |nil=>
  intro vs w;rw[map_nil]at w;cases w;exact .nil
 |cons n ns ih=>
  intro vs w;rw[map_cons]at w;cases w with
  |cons a b=>
   cases a;exact .cons _ _ (ih _ b)
end Att
namespace L2
open PySem PySem.Spec PyProof.Rows
theorem nI:∀{vs:List Value}{ns:List Int},IntsAre vs ns->Vals (ns.map V.int) vs
 |_,_,.nil=>.nil
 |_,_,.cons n t h=>.cons ⟨t,rfl⟩ (nI h)
def inClass(s:Stmt)(j:Nat):Stmt:=match s with
 |.ClassDef _ _ _ body _ _ _ _ _ _ _=>body.getD j (.Pass ⟨0,0,0,0⟩)
 |_=>.Pass ⟨0,0,0,0⟩
def gx(s:Stmt):Arguments:=match s with
 |.FunctionDef _ a _ _ _ _ _ _ _ _=>a
 |_=>{posonlyargs:=[],args:=[],vararg:=none,kwonlyargs:=[],kw_defaults:=[],kwarg:=none,defaults:=[]}
def d8(s:Stmt):List Stmt:=match s with
 |.FunctionDef _ _ b _ _ _ _ _ _ _=>b
 |_=>[]
def aj(s:Stmt):Scope:=match s with
 |.FunctionDef _ _ _ _ _ _ sc _ _ _=>sc
 |_=>{kind:=.function,names:=[],isGenerator:=false,isCoroutine:=false}
abbrev CX0:CXT:=fun _ _ _ _ _ _=>False
abbrev E0:XK:=fun _ _ _=>False
theorem cp{X:Cx}:Passes CX0 X E0:=fun _ _ _ _ _ _ _ h=>h.elim
structure Fun(K:Frag)(x qual:Str)(st:Stmt)(f:Addr)(fd:FuncData):Prop where
 ex:∃(oc:Value)(od:Option Addr)(kV doc pm:Value)(an:Option Addr)(cdv ct:Value)(osl:Array (Option Value)),
  fd=fnOf x qual (gx st) (d8 st) (aj st) .none kV doc pm an cdv ct/\K.lookup f=some ⟨oc,od,.func fd,osl⟩/\codeIn K cdv qual=true
 kp:keepIn K (.ref f)=true
section
variable{P:Program}{w:World}{K:Frag}{mg:Str->Option Value}{base:Heap}
theorem Fun.ok{x qual:Str}{st:Stmt}{f:Addr}{fd:FuncData}{N ps:List Str}{k:Nat}{sp:Sp}(F:Fun K x qual st f fd)(S:au N ps (aj st))(len:∀vs H Q E,sp vs H Q E->vs.length=ps.length)
  (kh:∀(cdv:Value)(A:Around)(outer:List Env)(s:Shared)(H:Hp)(vs:List V)(Q:VK)(E:XK),ed k (A.deeper (envOfC qual (aj st) s.heap.objs.size f cdv))->sp vs H Q E->
   ∃t,PSs (bq CX0 P w K mg base N qual (aj st) f cdv A outer s H E).nox (d8 st) t/\t {nx:=fun _ H'=>Q .non H',rt:=Q} (start N vs) H):eF P w K mg base CX0 (k+1) f fd ps sp:=by
 obtain⟨oc,od,kV,doc,pm,an,cdv,ct,osl,rfl,lk,hcd⟩:=F.ex;refine Jf lk hcd S len fun A outer s H vs Q E hr hsp=>?_
 obtain⟨t,h,q⟩:=kh cdv A outer s H vs Q E hr hsp;exact⟨t,h.nox,q⟩
theorem Fun.binds{x qual:Str}{st:Stmt}{f:Addr}{fd:FuncData}{ps:List Str}(F:Fun K x qual st f fd)
  (h:∀(kV doc pm:Value)(an:Option Addr)(cdv ct:Value)(us:List Value),us.length=ps.length->bindArgs (fnOf x qual (gx st) (d8 st) (aj st) .none kV doc pm an cdv ct) ⟨us,[]⟩=pure (ps.zip us)):Binds K fd ps []:=by
 obtain⟨oc,od,kV,doc,pm,an,cdv,ct,osl,rfl,lk,hcd⟩:=F.ex;exact .all (h kV doc pm an cdv ct)
theorem wR{x qual:Str}{st:Stmt}{f:Addr}{oc:Value}{od an:Option Addr}{osl:Array (Option Value)}{kV doc pm cdv ct:Value}(l:K.lookup f=some ⟨oc,od,.func (fnOf x qual (gx st) (d8 st) (aj st) .none kV doc pm an cdv ct),osl⟩)
  (c:codeIn K cdv qual=true) (k:keepIn K (.ref f)=true):Fun K x qual st f (fnOf x qual (gx st) (d8 st) (aj st) .none kV doc pm an cdv ct):=⟨⟨oc,od,kV,doc,pm,an,cdv,ct,osl,rfl,l,c⟩,k⟩
end
theorem gZ{A:Around}{k:Nat}(hr:ed k A):A.units+1<cLine:=lt_of_le_of_lt (Nat.add_le_add_left (by decide:1<=64) _) hr.units
def pvB(N:List Str)(sc:Scope)(i:Nat)(x:Str):Bool:=decide (N[i]?=some x)&&(match sc.names.lookup x with
 |some .local=>true
 |some .cell=>true
 |some .free=>true
 |_=>false)&&(x==("__debug__":Str))==false&&(x==("__classdict__":Str))==false
section
variable{X:Cx}
theorem pv(i:Nat){x:Str}{pos:Pos}(h:pvB X.N X.env.scope i x=true:=by kernel_rfl):PE X (.Name x pos) (cU i):=by
 unfold pvB at h;rw[Bool.and_eq_true,Bool.and_eq_true,Bool.and_eq_true]at h;obtain⟨⟨⟨h1,h2⟩,h3⟩,h4⟩:=h;refine HK (of_decide_eq_true h1) ?_ (by simpa using h3) (by simpa using h4);unfold Vis;split at h2
 .exact .inl (by assumption)
 .exact .inr (.inl (by assumption))
 .exact .inr (.inr (by assumption))
 .cases h2
end
theorem aT{A B:Prop}(h:B):if false=true then A else B:=by
 rw[if_neg Bool.false_ne_true];exact h
theorem a9{A B:Prop}(h:A):if true=true then A else B:=by
 rw[if_pos rfl];exact h
section
variable{D:Type}[DecidableEq D]
theorem Dn:∀{l:List D}{k:D},l.Nodup->¬k∈l->(l++[k]).Nodup
 |[],k,_,_=>by simp
 |a::r,k,h,hk=>by
  obtain⟨h1,h2⟩:=nodup_cons.mp h;show(a::(r++[k])).Nodup;refine nodup_cons.mpr ⟨fun m=>?_,Dn h2 fun m=>hk (mem_cons.mpr (Or.inr m))⟩;rcases mem_append.mp m with q|q
  .exact h1 q
  .exact hk (mem_cons.mpr (Or.inl (mem_singleton.mp q).symm))
end
theorem b9.there{P:Program}{w:World}{H:Hp}{h:Heap}{a:Addr}{o:HO}(x:b9 P w H h a o):∃u,h.get? a=some u:=by
 cases o with
 |lst xs=>obtain⟨_,_,_,_,e⟩:=x;exact⟨_,e⟩
 |tup xs=>obtain⟨_,_,_,_,e,_⟩:=x;exact⟨_,e⟩
 |dK kvs=>obtain⟨_,_,_,_,o,_,_,e,_⟩:=x;exact⟨_,e⟩
 |dT kvs=>obtain⟨_,_,_,_,o,_,_,e,_⟩:=x;exact⟨_,e⟩
 |set S n=>obtain⟨o,_,_,_,e,_⟩:=x;exact⟨_,e⟩
 |ins C dx fs=>obtain⟨_,_,_,e,_⟩:=x;exact⟨_,e⟩
 |own y=>obtain⟨_,e⟩:=x;exact⟨_,e⟩
 |xd fs=>obtain⟨_,⟨_,_,_,e,_⟩,_⟩:=x;exact⟨_,e⟩
 |rng lo hi=>obtain⟨_,_,_,e⟩:=x;exact⟨_,e⟩
 |frz ob u=>obtain⟨e,_⟩:=x;exact⟨_,e⟩
 |tbl ps=>exact⟨_,(show h.get? a=some _ from x)⟩
 |met f y=>exact⟨_,(show h.get? a=some _ from x)⟩
 |ext G=>obtain⟨_,⟨_,e⟩,_⟩:=x;exact⟨_,e⟩
structure jC(P:Program)(w:World)(C:Addr)(outer:List Env)(H:Hp)(s:Shared)(ea t:Addr)(B:Heap)(H':Hp)(s':Shared):Prop where
 os:s'.os=s.os
 bare:AllBare s'.gens
 free:∀b o,s.heap.get? b=some o->H b=none->H' b=none
 lI:∀b xs,H b=some (.tup xs)->H' b=some (.tup xs)
 kj:∀b o u,H b=some (.frz o u)->H' b=some (.frz o u)
 kS:∀b ps,H b=some (.tbl ps)->∃more,H' b=some (.tbl (ps++more))
 slot:∀b o,s.heap.get? b=some o->H b=none->b∈frs outer->∃sl,s'.heap.get? b=some {o with slots:=sl}
 hok:HOk P w H' s'.heap
 fl:Heap.FlyingW B outer ea (.ref C) (.ref t) s'.heap
 old:∀b o,s.heap.get? b=some o->H b=none->b∉frs outer->B.get? b=some o
 thr:∀b o,s.heap.get? b=some o->b∉frs outer->∃o',B.get? b=some o'
 trk:∀b o,H' b=some o->∃u,B.get? b=some u
def CXW(P:Program)(w:World)(C:Addr):CXT:=fun outer H s E e s'=>∃ea t B H',e=.ref ea/\jC P w C outer H s ea t B H' s'/\E (.ref C) none H'
section
variable{P:Program}{w:World}{C:Addr}{outer:List Env}{H H':Hp}{s s':Shared}{ea t:Addr}{B h':Heap}
theorem jC.Po(F:jC P w C outer H s ea t B H' s')(k:B.StaysIn h'):HOk P w H' h':=fun a o e=>
 (F.hok a o e).nN (fun b u hb q=>by
  have tr:∃v,B.get? b=some v:=by
   rcases hb with rfl|hb
   .exact F.trk _ _ e
   .exact F.trk _ _ hb
  obtain⟨v,hv⟩:=tr;have e1:=F.fl.1 b v hv;rw[q]at e1;cases e1
  exact k b u hv) (fun _ q=>q) fun _ _ q=>q
theorem jC.Gx(F:jC P w C outer H s ea t B H' s')(sm:s'.heap.UpToSlots h'):∀b o,s.heap.get? b=some o->H b=none->b∈frs outer->∃sl,h'.get? b=some {o with slots:=sl}:=fun b o e n hb=>by
 obtain⟨sl,e1⟩:=F.slot b o e n hb;obtain⟨_,o2,e2,hd⟩:=F.fl.2.2.1.mem hb;obtain⟨sl2,e3⟩:=sm b o2 e2 hd;rw[e1]at e2;cases e2;exact⟨sl2,e3⟩
theorem jC.un(F:jC P w C outer H s ea t B H' s')(k:B.StaysIn h')(sl:∀b o,s.heap.get? b=some o->H b=none->b∈frs outer->∃sl,h'.get? b=some {o with slots:=sl})
  (fr:∀b∈frs outer,∃o,h'.get? b=some o):Un (frs outer) [] H H' s.heap h' where
 keep:=fun b o e n hb _=>k b o (F.old b o e n hb)
 slot:=fun b o e n hb _=>sl b o e n hb
 free:=fun b o e n _=>F.free b o e n
 there:=fun b o e _=>by
  by_cases hb:b∈frs outer
  .exact fr b hb
  .obtain⟨o',e'⟩:=F.thr b o e hb;exact⟨o',k _ _ e'⟩
 lI:=F.lI
 kj:=F.kj
 kS:=F.kS
theorem jC.YD(F:jC P w C outer H s ea t B H' s')(sm:s'.heap.UpToSlots h'):∀b∈frs outer,∃o,h'.get? b=some o:=fun b hb=>by
 obtain⟨_,o2,e2,hd⟩:=F.fl.2.2.1.mem hb;obtain⟨sl2,e3⟩:=sm b o2 e2 hd;exact⟨_,e3⟩
theorem jC.WL(F:jC P w C outer H s ea t B H' s')(k:B.StaysIn h')(sm:s'.heap.UpToSlots h'):Un (frs outer) [] H H' s.heap h':=F.un k (F.Gx sm) (F.YD sm)
end
section
variable{P:Program}{w:World}{K:Frag}{mg:Str->Option Value}{base:Heap}{N:List Str}{qual:Str}{scope:Scope}{f C:Addr}{cd:Value}{A:Around}{outer:List Env}{s0:Shared}{H0:Hp}{E:XK}
theorem ay:Passes (CXW P w C) (bq (CXW P w C) P w K mg base N qual scope f cd A outer s0 H0 E) E:=by
 intro pins Y H s e s' I h;obtain⟨ea,t,B,H',rfl,F,q⟩:=h;have nL:∀b o,s0.heap.get? b=some o->b∉frs outer->b∉frs (envOfC qual scope s0.heap.objs.size f cd::outer):=fun b o e hb z=>by
  rcases mem_cons.mp (I.jQ b z)with z|z
  .exact absurd (lt_of_lt_of_le (Heap.lt_size e) I.ok.above) (by rw[z];exact lt_irrefl _)
  .exact hb z
 have nx:∀b:Addr,b∉([]:List Addr):=fun b z=>by simp at z
 show wpAny (model P w) (A.deeper (envOfC qual scope s0.heap.objs.size f cd)) (leaving (envOfC qual scope s0.heap.objs.size f cd) (.ref ea)) (fun _ s''=>CXW P w C outer H0 s0 E (.ref ea) s'') (fun e' s''=>CXW P w C outer H0 s0 E e' s'') s';refine wpAny_leaves_onW I.ok.frames rfl F.fl fun h'' x1 x2=>?_
 refine⟨ea,t,B,H',rfl,⟨F.os.trans I.os,F.bare,fun b o e n=>?_,fun b xs e=>F.lI b xs (I.base.lI b xs e),fun b o u e=>F.kj b o u (I.base.kj b o u e),fun b ps e=>?_,fun b o e n hb=>?_,F.Po x1.1,x1,fun b o e n hb=>?_,fun b o e hb=>?_,F.trk⟩,q⟩
 .obtain⟨o',e'⟩:=I.base.there b o e (nx b);exact F.free b o' e' (I.base.free b o e n (nx b))
 .obtain⟨m1,e1⟩:=I.base.kS b ps e;obtain⟨m2,e2⟩:=F.kS b _ e1;exact⟨m1++m2,by rw[e2,Array.append_assoc]⟩
 .obtain⟨sl,e1⟩:=I.base.slot b o e n hb (nx b);have hb':b∈frs (envOfC qual scope s0.heap.objs.size f cd::outer):=mem_cons_of_mem _ hb;obtain⟨sl2,e2⟩:=F.Gx x2 b _ e1 (I.base.free b o e n (nx b)) hb';exact⟨sl2,e2⟩
 .exact F.old b o (I.base.keep b o e n hb (nx b)) (I.base.free b o e n (nx b)) (nL b o e hb)
 .obtain⟨o',e'⟩:=I.base.there b o e (nx b);exact F.thr b o' e' (nL b o e hb)
structure Ct(K:Frag)(mg:Str->Option Value)(x:Str)(C:Addr):Prop where
 ns:nsIn K mainGlobals x=some (some (.ref C))
 ex:excIn K C [.type "ValueError",.type "Exception",.type "BaseException",.type "object"] "ValueError.__new__"=true
theorem Ct.own{K:Frag}{mg:Str->Option Value}{x:Str}{C:Addr}{h:Heap}(T:Ct K mg x C)(X:K.In h)(G:h.Ns mainGlobals mg):OwnCls x C [.type "ValueError",.type "Exception",.type "BaseException",.type "object"] "ValueError.__new__" mg h:=by
 refine⟨mg_of X G T.ns,?_⟩;have q:=T.ex;unfold excIn at q;split at q
 .rename_i dd cd sl ho;split at q
  .rename_i C' bm k0 k1 k2 k3 n k5 hm hs;simp only[Bool.and_eq_true,beq_iff_eq,Bool.not_eq_true']at q;obtain⟨⟨⟨⟨⟨rfl,rfl⟩,Wg⟩,ht⟩,hok⟩,hni⟩:=q;obtain⟨nm,bs,mro,ns,qn,hd,sn,sub,ab,col,del⟩:=cd;dsimp only at hm Wg hok hni;subst hm Wg;have hsl:sl=#[k0,k1,k2,k3,some (.builtin "ValueError.__new__"),k5]:=by
    obtain⟨l⟩:=sl;simp only at hs;rw[hs]
   subst hsl;exact⟨bm,ns,nm,qn,bs,hd,sn,sub,ab,col,dd,k0,k1,k2,k3,k5,_,X _ _ ho,.of_isNs (PySem.W.isNs_of_in X hok),PySem.W.nsMap_none_of_in X hok hni,PySem.W.tail_of_in X ht⟩
  .cases q
 .cases q
def QS(E:XK)(C:Addr):TS:=fun _ _ H=>E (.ref C) none H
theorem bo{x:Str}{np gS pos:Pos}(T:Ct K mg x C)
  (hg:Gl (bq (CXW P w C) P w K mg base N qual scope f cd A outer s0 H0 E) x) (hd:(x==("__debug__":Str))=false:=by decide):
  PS (bq (CXW P w C) P w K mg base N qual scope f cd A outer s0 H0 E) (.Raise (some (.Call (.Name x np) [] [] gS)) none pos) (QS E C):=by
 intro pins s Y H D I q;have G:s.heap.Ns mainGlobals mg:=I.mod.glob.keeps I.bk;obtain⟨bnd,tl,NN,nm,qn,bs,hdct,sn,sub,ab,col,dd,k0,k1,k2,k3,k5,mN,hC,hN,hni,TL⟩:=T.own I.kIn G;have nL:∀b o,s0.heap.get? b=some o->b∉frs outer->b∉frs (envOfC qual scope s0.heap.objs.size f cd::outer):=fun b o e hb z=>by
  rcases mem_cons.mp (I.jQ b z)with z|z
  .exact absurd (lt_of_lt_of_le (Heap.lt_size e) I.ok.above) (by rw[z];exact lt_irrefl _)
  .exact hb z
 have nx:∀b:Addr,b∉([]:List Addr):=fun b z=>by simp at z
 refine wpAny_Raise_call_subT (C:=C) (nm:=nm) (q:=qn) (N:=NN) (bs:=bs) (bm:=tl) (hdct:=hdct) (sn:=sn) (sub:=sub) (ab:=ab) (col:=col) (dd:=dd) (k0:=k0) (k1:=k1) (k2:=k2) (k3:=k3) (k5:=k5)
  F.excBase_ValueError (mN:=mN) (TL.hasType F.excBase_ValueError.hasBase) (I.ok.hd rfl) rfl hni (gY I hg bnd ⟨rfl,?_⟩ hd)
 refine PyProof.Rows.evalArgs_empty ⟨rfl,zero_le _,hC,hN,TL,fun h1 e hm=>?_⟩;show wpAny (model P w) (A.deeper (envOfC qual scope s0.heap.objs.size f cd)) (leaving (envOfC qual scope s0.heap.objs.size f cd) (.ref e)) (fun _ s''=>CXW P w C outer H0 s0 E (.ref e) s'') (fun e' s''=>CXW P w C outer H0 s0 E e' s'') {s with heap:=h1};have hin:∀env∈(envOfC qual scope s0.heap.objs.size f cd::outer),∀b,env.frame=some b->b∈frs (envOfC qual scope s0.heap.objs.size f cd::outer):=fun env he b hb=>mem_filterMap.mpr ⟨env,he,hb⟩
 refine wpAny_leaves_madeW (base:=PySem.W.hideAll s.heap (frs (envOfC qual scope s0.heap.objs.size f cd::outer))) (h:=s.heap) I.ok.frames rfl (fun b o z=>PySem.W.of_hideAll _ z) (PySem.W.funFrames_hide I.stack hin) hm fun h2 t x1 _ x3 x4=>?_
 have inB:∀b o,s.heap.get? b=some o->b∉frs (envOfC qual scope s0.heap.objs.size f cd::outer)->(PySem.W.hideAll s.heap (frs (envOfC qual scope s0.heap.objs.size f cd::outer))).get? b=some o:=fun b o z nz=>PySem.W.hideAll_get _ z nz
 have tr:∀b o,H b=some o->∃u,s.heap.get? b=some u/\(PySem.W.hideAll s.heap (frs (envOfC qual scope s0.heap.objs.size f cd::outer))).get? b=some u:=fun b o z=>by
  obtain⟨u,hu⟩:=(I.hok b o z).there;exact⟨u,hu,inB b u hu fun nz=>by rw[I.pK b nz]at z;cases z⟩
 have fl:Heap.FlyingW (PySem.W.hideAll s.heap (frs (envOfC qual scope s0.heap.objs.size f cd::outer))) outer e (.ref C) (.ref t) h2:=x1;refine⟨e,t,_,H,rfl,⟨I.os,I.bare,fun b o z n=>I.base.free b o z n (nx b),I.base.lI,I.base.kj,I.base.kS,fun b o z n hb=>?_,fun a o z=>?_,fl,fun b o z n hb=>?_,fun b o z hb=>?_,fun b o z=>?_⟩,q⟩
 .obtain⟨sl,e1⟩:=I.base.slot b o z n hb (nx b);obtain⟨_,o2,e2,hd2⟩:=I.jE.mem hb;obtain⟨sl2,e3⟩:=x4 b o2 (hm.keeps b o2 e2) hd2;have e2':s.heap.get? b=some o2:=e2;rw[e1]at e2';cases e2';exact⟨sl2,e3⟩
 .refine(I.hok a o z).nN (fun b u hb q2=>?_) (fun _ q2=>q2) fun _ _ q2=>q2
  have tr2:∃v,s.heap.get? b=some v/\(PySem.W.hideAll s.heap (frs (envOfC qual scope s0.heap.objs.size f cd::outer))).get? b=some v:=by
   rcases hb with rfl|hb
   .exact tr _ _ z
   .exact tr _ _ hb
  obtain⟨v,hv,hv2⟩:=tr2;rw[q2]at hv;cases hv;exact fl.1 b u hv2
 .exact inB b o (I.base.keep b o z n hb (nx b)) (nL b o z hb)
 .obtain⟨o',e'⟩:=I.base.there b o z (nx b);exact⟨o',inB b o' e' (nL b o z hb)⟩
 .obtain⟨u,_,hu⟩:=tr b o z;exact⟨u,hu⟩
end
theorem Fun.okX{P:Program}{w:World}{K:Frag}{mg:Str->Option Value}{base:Heap}{C:Addr}{x qual:Str}{st:Stmt}{f:Addr}{fd:FuncData}{N ps:List Str}{k:Nat}{sp:Sp}(F:Fun K x qual st f fd)(S:au N ps (aj st))(len:∀vs H Q E,sp vs H Q E->vs.length=ps.length)
  (kh:∀(cdv:Value)(A:Around)(outer:List Env)(s:Shared)(H:Hp)(vs:List V)(Q:VK)(E:XK),ed k (A.deeper (envOfC qual (aj st) s.heap.objs.size f cdv))->sp vs H Q E->
   ∃t,PSs (bq (CXW P w C) P w K mg base N qual (aj st) f cdv A outer s H E) (d8 st) t/\t {nx:=fun _ H'=>Q .non H',rt:=Q} (start N vs) H):eF P w K mg base (CXW P w C) (k+1) f fd ps sp:=by
 obtain⟨oc,od,kV,doc,pm,an,cdv,ct,osl,rfl,lk,hcd⟩:=F.ex;exact Jf lk hcd S len fun A outer s H vs Q E hr hsp=>kh cdv A outer s H vs Q E hr hsp
abbrev Cx.pT(X:Cx)(pn:List (Addr×Obj))(E':Value->Shared->Prop):Cx:={X with pn:=pn,xe:=E'}
abbrev Cx.jO(X:Cx)(e:Addr):Cx:={X with A:=X.A.mark (some (.ref e)),calm:=false,xe:=fun _ _=>False}
section
variable{X:Cx}{pins yb:List (Addr×Obj)}{Y:St}{H:Hp}{s:Shared}{E':Value->Shared->Prop}{e:Addr}
theorem Cx.Ok.pT(ok:X.Ok)(pn:List (Addr×Obj))(E':Value->Shared->Prop):(X.pT pn E').Ok:=
 ⟨ok.mod,ok.kind,ok.glob,ok.blt,ok.above,ok.inj,ok.has,ok.cab,ok.hd,ok.frames,ok.stk,ok.exf,ok.bs,ok.bsz,ok.yn,ok.zr,ok.jE,ok.frf⟩
theorem Cx.Ok.iT{pn:List (Addr×Obj)}(ok:(X.pT pn E').Ok):X.Ok:=
 ⟨ok.mod,ok.kind,ok.glob,ok.blt,ok.above,ok.inj,ok.has,ok.cab,ok.hd,ok.frames,ok.stk,ok.exf,ok.bs,ok.bsz,ok.yn,ok.zr,ok.jE,ok.frf⟩
theorem Inv.pT(I:Inv X pins Y H s)(E':Value->Shared->Prop):Inv (X.pT (X.pn++pins) E') [] Y H s:=
 ⟨I.ok.pT _ _,I.os,I.bare,I.base,I.loc,I.cell,I.free,I.fw,fun p hp=>I.pin p (by simpa using hp),I.hok,I.len⟩
theorem Inv.iT(I:Inv (X.pT (X.pn++pins) E') yb Y H s):Inv X pins Y H s:=
 ⟨I.ok.iT,I.os,I.bare,I.base,I.loc,I.cell,I.free,I.fw,fun p hp=>I.pin p (mem_append_left _ hp),I.hok,I.len⟩
theorem Inv.jO(I:Inv X pins Y H s)(e:Addr):Inv (X.jO e) pins Y H s:=
 ⟨⟨I.ok.mod,I.ok.kind,I.ok.glob,I.ok.blt,I.ok.above,I.ok.inj,I.ok.has,I.ok.cab,(fun z=>by cases z),I.ok.frames,I.ok.stk,I.ok.exf,I.ok.bs,I.ok.bsz,I.ok.yn,I.ok.zr,I.ok.jE,I.ok.frf⟩,
  I.os,I.bare,I.base,I.loc,I.cell,I.free,I.fw,I.pin,I.hok,I.len⟩
theorem Inv.ir(ok:X.Ok)(I:Inv (X.jO e) pins Y H s):Inv X pins Y H s:=⟨ok,I.os,I.bare,I.base,I.loc,I.cell,I.free,I.fw,I.pin,I.hok,I.len⟩
theorem SP.ir{D:Ends}{f:Flow}(ok:X.Ok)(h:SP (X.jO e) pins D f s):SP X pins D f s:=by
 cases f with
 |next=>obtain⟨Y',H',I,q⟩:=h;exact⟨Y',H',I.ir ok,q⟩
 |brk=>obtain⟨Y',H',I,q⟩:=h;exact⟨Y',H',I.ir ok,q⟩
 |cont=>obtain⟨Y',H',I,q⟩:=h;exact⟨Y',H',I.ir ok,q⟩
 |ret u=>obtain⟨v,Y',H',I,r,q⟩:=h;exact⟨v,Y',H',I.ir ok,r,q⟩
theorem SP.iT{D:Ends}{f:Flow}(h:SP (X.pT (X.pn++pins) E') [] D f s):SP X pins D f s:=by
 cases f with
 |next=>obtain⟨Y',H',I,q⟩:=h;exact⟨Y',H',I.iT,q⟩
 |brk=>obtain⟨Y',H',I,q⟩:=h;exact⟨Y',H',I.iT,q⟩
 |cont=>obtain⟨Y',H',I,q⟩:=h;exact⟨Y',H',I.iT,q⟩
 |ret u=>obtain⟨v,Y',H',I,r,q⟩:=h;exact⟨v,Y',H',I.iT,r,q⟩
end
section
variable{X:Cx}{C:Addr}{x:Str}{body CP:List Stmt}{b₀:Stmt}{np Ub pos:Pos}{tb:XK->TS}{ts:TS}
def Gp(X:Cx)(ts:TS)(D:Ends):XK:=fun _ _ H'=>∀Y':St,Y'.length=X.N.length->ts D Y' H'
theorem RO(T:Ct X.K X.mg x C)(hst:X.stack=X.env::X.outer)(hfr:X.env.frame=some X.env.locals)
  (hb:∀(pn:List (Addr×Obj))(E:XK)(E':Value->Shared->Prop),Passes (CXW X.prog X.w C) (X.pT pn E') E->PSs (X.pT pn E') body (tb E)) (hs:∀e,PSs (X.jO e) (b₀::CP) ts) (hg:Gl X x)
  (hd:(x==("__debug__":Str))=false:=by decide):
  PS X (.Try body [.ExceptHandler (some (.Name x np)) none (b₀::CP) Ub] [] [] pos) (fun D Y H=>tb (Gp X ts D) D Y H):=by
 intro pins s Y H D I h;refine wpAny_Try_except (wpAny_mono (hb (X.pn++pins) (Gp X ts D) (fun e s₁=>wpAny (model X.prog X.w) X.A (noteFrame e X.env) (fun _ s₂=>wpAny (model X.prog X.w) X.A (setFlight e none) (fun _ s₃=>
  wpAny (model X.prog X.w) X.A (handleBy e X.env [.ExceptHandler (some (.Name x np)) none (b₀::CP) Ub]) (SP X pins D) X.xe s₃) X.xe s₂) X.xe s₁) ?_ [] s Y H D (I.pT _) h) (fun f s1 q=>?_) fun e s1 q=>q)
 .intro yb Y' H1 s1 e s2 J q;obtain⟨ea,t,B,H2,rfl,F,q⟩:=q;have ok:X.Ok:=I.ok;have J1:Inv X pins Y' H1 s1:=J.iT;have Yc:X.A.frames=some (X.env::X.outer):=by rw[ok.frames,hst]
  have F':jC X.prog X.w C (X.env::X.outer) H1 s1 ea t B H2 s2:=by rw[<-hst];exact F
  show wpAny (model X.prog X.w) X.A (noteFrame (.ref ea) X.env) (fun _ s₂=>wpAny (model X.prog X.w) X.A (setFlight (.ref ea) none) (fun _ s₃=>
   wpAny (model X.prog X.w) X.A (handleBy (.ref ea) X.env [.ExceptHandler (some (.Name x np)) none (b₀::CP) Ub]) (SP X pins D) X.xe s₃) X.xe s₂) X.xe s2
  refine wpAny_looks_onW Yc hfr F'.fl fun h4 Wf sm4=>?_
  refine wpAny_landsW Wf fun h5 fl5 sm5=>?_
  have U7:=sm4.trans sm5;have inv:∀(h':Heap),B.StaysIn h'->s2.heap.UpToSlots h'->Inv X pins Y' H2 {s2 with heap:=h'}:=fun h' k sm=>
   J1.Px (s':={s2 with heap:=h'}) (ch:=[]) F.os (F.WL k sm) (F.Po k) F.bare (fun b z=>by simp at z)
  have J5:=inv h5 fl5.1 U7;obtain⟨bnd,tl,NN,nm,qn,bs,hdct,sn,sub,ab,col,dd,k0,k1,k2,k3,k5,mN,hC,hN,hni,TL⟩:=T.own J5.kIn (J5.mod.glob.keeps J5.bk);obtain⟨ob,hob,XW⟩:=fl5.there;refine wpAny_handleBy_cons (codeAny_handlers_test (gY (X:=X.jO ea) (J5.jO ea) hg bnd ?_ hd)) (by intro z;cases z);refine wpAny_excMatches_sub_self hC hob XW (TL.hasType PySem.F.excBase_ValueError.hasBase) (codeAny_handlers_suite ?_);refine lands_againW fl5 fun h6 fl6 sm6=>?_
  have J6:=inv h6 fl6.1 (U7.trans sm6);refine wpAny_mono (hs ea pins {s2 with heap:=h6} Y' H2 D (J6.jO ea) (q Y' J6.len)) (fun f s7 z=>z.ir ok) fun _ _ z=>False.elim z
 .have q:=SP.iT q;cases f with
  |next=>
   obtain⟨Y',H',I',q'⟩:=q;exact wpAny_execs_nil ⟨Y',H',I',q'⟩
  |brk=>exact q
  |cont=>exact q
  |ret u=>exact q
end
end L2
namespace L2
open PySem PySem.Spec PyProof.Rows TL
def Glob(mg:Str->Option Value)(x:Str)(v:V):Prop:=∃u,mg x=some u/\RelV v u
theorem dT{c A B:Prop}[Decidable c](hc:c)(h:A):if decide c=true then A else B:=by
 rw[decide_eq_true hc];exact a9 h
theorem dF{c A B:Prop}[Decidable c](hc:¬c)(h:B):if decide c=true then A else B:=by
 rw[decide_eq_false hc];exact aT h
theorem aB{X:Cx}{x:Str}{v:V}{pos:Pos}(h:Glob X.mg x v)(hg:Gl X x:=by rfl)(hd:(x==("__debug__":Str))=false:=by decide):PE X (.Name x pos) (tC v):=by
 obtain⟨u,hm,r⟩:=h;exact i6 hg hm r hd
theorem MB{k:Str}{v:V}{r:List (Str×V)}:((k,v)::r).lookup k=some v:=by simp[List.lookup]
theorem kO{k j:Str}{v:V}{r:List (Str×V)}(h:(k==j)=false):((j,v)::r).lookup k=r.lookup k:=by simp[List.lookup,h]
theorem dP{k:Str}{v:V}:bw k v []=[(k,v)]:=rfl
theorem vY{k:Str}{v x:V}{r:List (Str×V)}:bw k v ((k,x)::r)=(k,v)::r:=by
 show(if k=k then(k,v)::r else(k,x)::bw k v r)=_;rw[if_pos rfl]
theorem bD{k j:Str}{v x:V}{r:List (Str×V)}(h:¬j=k):bw k v ((j,x)::r)=(j,x)::bw k v r:=by
 show(if j=k then(j,v)::r else(j,x)::bw k v r)=_;rw[if_neg h]
section
variable{X:Cx}
theorem ra:MtR X "str.startswith" (fun x xs H Q=>∃a b i,x=.str a/\xs=[.str b,.int i]/\Q (.bl (Txt.startswith3 a b i)) H):=by
 intro pins s Y H x xs v us Q I rx rs h;obtain⟨a,b,i,rfl,rfl,h⟩:=h;obtain⟨t,rfl⟩:=rx;obtain⟨u1,u2,rfl,⟨t1,rfl⟩,⟨t2,rfl⟩⟩:=rs.two;exact PySem.SC.startswith3 ⟨.bl _,H,I,rfl,h⟩
theorem Ip:MtR X "str.find" (fun x xs H Q=>∃a b i,x=.str a/\xs=[.str b,.int i]/\Q (.int (Txt.find3 a b i)) H):=by
 intro pins s Y H x xs v us Q I rx rs h;obtain⟨a,b,i,rfl,rfl,h⟩:=h;obtain⟨t,rfl⟩:=rx;obtain⟨u1,u2,rfl,⟨t1,rfl⟩,⟨t2,rfl⟩⟩:=rs.two;exact PySem.SC.find3 ⟨.int _,H,I.tok _,⟨_,rfl⟩,h⟩
end
theorem L9{S l:List Nat}:pre S l=true↔l.take S.length=S:=by unfold pre;exact beq_iff_eq
theorem lu{n p:Nat}:fromIndex n (p:Int)=p:=by
 unfold fromIndex;rw[if_neg (by omega)];omega
theorem Ec{x y:Str}{p:Nat}(hy:tl y≠[]):Txt.startswith3 x y (p:Int)=pre (tl y) ((tl x).drop p):=by
 unfold Txt.startswith3;rw[lu];have h:=Cr (x:=x) (y:=y) hy p;rw[Bool.eq_iff_iff,<-h];show(decide (p+y.length<=x.length)&&_)=true↔_;rw[Bool.and_eq_true,decide_eq_true_eq];rfl
theorem M0{x y:Str}{p:Nat}(hy:tl y≠[]):(Txt.find3 x y (p:Int)=-1/\∀i,p<=i->pre (tl y) ((tl x).drop i)=false) \/
  ∃k,p<=k/\Txt.find3 x y (p:Int)=(k:Int)/\pre (tl y) ((tl x).drop k)=true/\∀i,p<=i->i<k->pre (tl y) ((tl x).drop i)=false:=by
 unfold Txt.find3;rw[lu,StrLaws.occ_eq];rcases StrLaws.occ_first x y x.length 1 (le_refl 1) (List.range' p (x.length+1-p)) p (fun i hi=>(mem_range'_1.mp hi).1)with⟨h,hn⟩|⟨pr,c,post,hl,h,hc,hn⟩
 .left
  rw[h];refine⟨rfl,fun i hi=>Pf hy fun z=>?_⟩;by_cases hi2:i<x.length+1
  .exact hn i (mem_range'_1.mpr ⟨hi,by omega⟩) z
  .have:=z.1;omega
 .right
  have mT:c∈List.range' p (x.length+1-p):=by rw[hl];simp
  have hcp:=(mem_range'_1.mp mT).1;refine⟨c,hcp,?_,(Cr hy c).mp hc,fun i hi hic=>Pf hy fun z=>?_⟩
  .generalize (forIn (List.range' p (x.length+1-p)) ((#[]:Array Nat),p) (StrLaws.occBody x y x.length 1)).run.fst=arr at h;cases hal:arr.toList with
   |nil=>
    have:arr=#[]:=by rw[<-Array.toList_inj,hal]
    rw[this]at h;simp at h
   |cons d r=>
    have h2:arr.toList[0]?=some c:=by rw[Array.getElem?_toList];exact h
    rw[hal]at h2;cases h2;rfl
  .have hpl:pr.length=c-p:=by
    have e1:(List.range' p (x.length+1-p))[pr.length]?=some c:=by rw[hl];simp
    have e1':=List.getElem?_eq_some_iff.mp e1;obtain⟨h9,e9⟩:=e1';rw[List.getElem_range']at e9;omega
   have hin:i∈pr:=by
    have e2:(List.range' p (x.length+1-p))[i-p]?=some i:=by
     have hlt:i-p<x.length+1-p:=by
      have h3:=(mem_range'_1.mp mT).2;omega
     rw[List.getElem?_eq_getElem (by rw[List.length_range'];exact hlt),List.getElem_range'];congr 1
     omega
    rw[hl,List.getElem?_append_left (by omega)]at e2;exact mem_of_getElem? e2
   exact hn i hin z
theorem zV{z:Str}{p q:Nat}(h:p<=q)(hq:q<=z.length):tl (Cc z (some (p:Int)) (some (q:Int)))=((tl z).drop p).take (q-p):=by
 unfold Cc;rw[HT.kJ,HT.kJ,min_eq_left hq,min_eq_left (le_trans h hq)]
theorem Bs{X:Cx}:MtR X "str.islower" (fun x xs H Q=>∃a,x=.str a/\xs=[]/\True/\Q (.bl (Txt.islower a)) H):=
 mt0 (C:=fun _=>True) (g:=fun a=>.bl (Txt.islower a)) fun _ _ _ _ _ hq=>PySem.SC.islower (hq _ _ rfl)
def QZ(i:Nat)(f:Addr)(sp:Sp)(E:XK)(t:TA):TE:=fun Y H Q=>Y[i]?=some (some (.ref f))/\t Y H fun vs H1=>sp vs H1 Q E
section
variable{X:Cx}{CX:CXT}{k:Nat}{f:Addr}{fd:FuncData}{ps:List Str}{sp:Sp}{E:XK}{x:Str}{p pos:Pos}{e:Expr}{es:List Expr}{t:TA}
theorem RW(hg:Gl X x)(hm:X.mg x=some (.ref f))(hd:(x==("__debug__":Str))=false:=by decide):PE X (.Name x pos) (tC (.ref f)):=i6 (v:=.ref f) hg hm rfl hd
end
def KD(K:Frag)(pr:Params)(g:Addr)(kvs:List (Str×Int)):Prop:=∀(P:Program)(w:World)(h:Heap),w.params=pr->K.In h->∃vs,KV (kvs.map fun p=>((Sum.inr p.1:Key),V.int p.2)) vs/\h.DictOf (bt P w) g vs
def tKD(kvs:List (Str×Int))(ty:TE):TE:=fun Y H Q=>ty Y H fun y H1=>∃x n,y=.str x/\dJ (kvs.map fun p=>((Sum.inr p.1:Key),V.int p.2)) (Sum.inr x)=some (.int n)/\Q (.int n) H1
theorem Vn{X:Cx}{x:Str}{g:Addr}{kvs:List (Str×Int)}{i:Expr}{ty:TE}{p pos:Pos}(hg:Gl X x)(hm:X.mg x=some (.ref g)){pr:Params}(hw:X.w.params=pr)(hd:KD X.K pr g kvs)(hi:PE X i ty)(hs:Nl i)(hdb:(x==("__debug__":Str))=false:=by decide):
  PE X (.Subscript (.Name x p) i pos) (tKD kvs ty):=by
 intro pins s Y H Q I h;refine vi PySem.F.slot_dict_getitem.lookup hs (gY I hg hm (thn (hi pins s Y H _ I h) fun iv s2 hZ=>?_) hdb);obtain⟨y,H2,I2,ry,z,n,ey,hv,q⟩:=hZ;subst ey;obtain⟨vs,rel,dd⟩:=hd X.prog X.w _ hw I2.kIn;refine⟨dd.typeIs,?_⟩;obtain⟨w',hw,rw'⟩:=il.some_of (v:=V.int n) (o:=valueAt vs (Sum.inr z)) (by rw[<-hv];exact rel.val (Sum.inr z));exact wpAny_getItem_of (rE (k:=Sum.inr z) ry) dd.mapOf hw ⟨_,H2,I2.tok _,rw',q⟩
structure DT(K:Frag)(mg:Str->Option Value)(x:Str)(st:Stmt)(f:Addr)(d:FuncData)(ps:List Str):Prop where
 fn:Fun K x x st f d
 b:Binds K d ps []
 mg:mg x=some (.ref f)
theorem pcD{X:Cx}{CX:CXT}{k j:Nat}{f:Addr}{fd:FuncData}{ps:List Str}{sp:Sp}{E:XK}{x:Str}{st:Stmt}{p pos:Pos}{e:Expr}{es:List Expr}{t:TA}(F:eF X.prog X.w X.K X.mg X.base CX k f fd ps sp)(hr:ed j X.A)(D:DT X.K X.mg x st f fd ps)(hx:Passes CX X E)(ha:PA X (e::es) t)
  (hk:k<=j:=by decide) (hg:Gl X x:=by rfl) (hdb:(x==("__debug__":Str))=false:=by kernel_rfl) (he:starEach (e::es) X.env=(false,eval e X.env)::starEach es X.env:=by rfl) (hpl:(backTo pos (starEach es X.env)).any (·.1)=false:=by rfl):
  PE X (.Call (.Name x p) (e::es) [] pos) (xy sp [] E t):=Mc F (hr.mono hk) hg D.mg D.fn.kp D.b .nil hx ha hdb he hpl
theorem sl0:0<=sizeLine:=by decide
theorem sl1:1<=sizeLine:=by decide
theorem sl3:3<=sizeLine:=by decide
theorem sl2:2<=sizeLine:=by decide
theorem sl4:4<=sizeLine:=by decide
theorem sl6:6<=sizeLine:=by decide
theorem lt0:0<1000:=by decide
theorem lt1:1<1000:=by decide
theorem lt2:2<1000:=by decide
theorem lt3:3<1000:=by decide
theorem lt4:4<1000:=by decide
section
variable{X:Cx}{CX:CXT}{k j:Nat}{f C:Addr}{fd:FuncData}{ps:List Str}{sp:Sp}{E:XK}{x:Str}{p pos apos:Pos}{e o:Expr}{es:List Expr}{t:TA}{ta te:TE}{m:Str}
theorem pa1(ha:PE X e te)(hs:starEach [e] X.env=(false,eval e X.env)::starEach [] X.env:=by rfl):PA X [e] (cb te fE):=ai ha lS hs
end
section
variable{prog:Program}{w:World}{A:Around}{E:Value->Shared->Prop}{s:Shared}
theorem Bo{ti tp:Addr}{j:Nat}{vals:Array Value}{y:Value}{Q:Value->Shared->Prop}(hI:IsTupIter s.heap ti tp j)(hT:IsTup s.heap tp vals)(hy:vals[j]?=some y)
  (go:∀h',IsTupIter h' ti tp (j+1)->Heap.SameBut ti s.heap h'->Q y {s with heap:=h'}):wpAny (model prog w) A (Builtin.SmallTypes.nextOf (.ref ti)) Q E s:=by
 obtain⟨oi,hoi,hci,hdi⟩:=id hI;obtain⟨ot,hot,_,nt,hdt⟩:=hT;unfold Builtin.SmallTypes.nextOf;refine wpAny_bind (wpAny_callSpecial?_slot (name:=Str.ofString "__next__") hI.typeIs slot_tupleiter_next (wpAny_call_entry slot_tupleiter_next hI.typeIs entry_tupleiter_next ?_ (args_tupleiter_next _)));show wpAny _ _ (field (.ref ti) 0 >>= _) _ _ s;refine wpAny_bind (wpAny_field hoi hdi (x:=.ref tp) rfl ?_);show wpAny _ _ (if (Value.ref tp==Value.none)=true then _ else _) _ _ s;rw[if_neg (show ¬((Value.ref tp==Value.none)=true)from Bool.false_ne_true)];show wpAny _ _ (field (.ref ti) 1 >>= _) _ _ s;refine wpAny_bind (wpAny_field hoi hdi (x:=.int j 0) rfl ?_);show wpAny _ _ (seqItems? (.ref tp) >>= _) _ _ s;refine wpAny_bind (wpAny_seqItems hot hdt ?_);simp only[toNat_natCast,hy];refine wpAny_bind (wpAny_setField hoi hdi (by simp) (wpAny_pure ⟨y,rfl,wpAny_pure (go _ ?_ (Heap.SameBut.update ..))⟩));exact⟨_,Heap.get?_update_self _ hoi (Obj.isFreed_of_fields (Obj.data_mapFields hdi _)),(Obj.cls_mapFields ..).trans hci,by rw[Obj.data_mapFields hdi];simp[rawInt]⟩
theorem IsTupIter.at'{h h':Heap}{b t:Addr}{i:Nat}(x:IsTupIter h b t i)(k:∀o,h.get? b=some o->h'.get? b=some o):IsTupIter h' b t i:=by
 obtain⟨o,ho,r⟩:=x;exact⟨o,k o ho,r⟩
theorem IsTup.at'{h h':Heap}{t:Addr}{vs:Array Value}(x:IsTup h t vs)(k:∀o,h.get? t=some o->h'.get? t=some o):IsTup h' t vs:=by
 obtain⟨o,ho,r⟩:=x;exact⟨o,k o ho,r⟩
theorem Av{z ta tb i1 i2 l1 l2:Addr}{k1 k2:Nat}{xs ys:Array Value}{x y u v:Value}{Q:Value->Shared->Prop}(D:ZipApart z ta tb i1 i2 l1 l2)
  (gz:IsZip s.heap z ta tb .none) (gi:IsPair s.heap ta (.ref i1) (.ref i2)) (gr:IsPair s.heap tb u v) (g1:s.heap.IsListIter i1 l1 k1) (g2:IsTupIter s.heap i2 l2 k2) (gl:s.heap.IsList l1 xs) (gt:IsTup s.heap l2 ys) (hx:xs[k1]?=some x) (hy:ys[k2]?=some y)
  (go:∀h',IsZip h' z ta tb (rawInt s.heap.objs.size)->IsPair h' tb x y->h'.IsListIter i1 l1 (k1+1)->IsTupIter h' i2 l2 (k2+1)->IsPair h' s.heap.objs.size x y->h'.objs.size=s.heap.objs.size+1->
   (∀c o,c≠z->c≠tb->c≠i1->c≠i2->s.heap.get? c=some o->h'.get? c=some o)->Q (.ref s.heap.objs.size) {s with heap:=h'}):
  wpAny (model prog w) A (Builtin.«zip.__next__» ⟨[.ref z],[]⟩) (fun fin s'=>∃r,fin=.done (.ret r)/\Q r s') E s:=by
 show wpAny _ _ (field (.ref z) 2 >>= _) _ _ _;refine wpAny_bind (wpAny_field gz rfl (x:=.bool false) rfl ?_);show wpAny _ _ (field (.ref z) 3 >>= _) _ _ _;refine wpAny_bind (wpAny_field gz rfl (x:=.ref ta) rfl (wpAny_bind (wpAny_seqItems gi rfl ?_)));show wpAny _ _ (Builtin.SmallTypes.ownedTupleIsFree (.ref z) >>= _) _ _ _;refine wpAny_bind ?_;unfold Builtin.SmallTypes.ownedTupleIsFree;refine wpAny_bind (wpAny_field gz rfl (x:=.none) rfl (wpAny_pure ?_));simp only[if_true];refine wpAny_bind (wpAny_rule (wpAny_bind (wpAny_field gz rfl (x:=.ref tb) rfl (wpAny_bind (wpAny_setField_rec gz (by simp) fun a1 z1 b1=>?_)))))
 replace z1:IsZip a1 z ta tb .ellipsis:=z1
 refine wpAny_bind ?_;simp only[List.zipIdx_cons,List.zipIdx_nil,forIn_cons,forIn_nil];refine wpAny_bind (wpAny_bind (wpAny_onRaise ?_));show wpAny _ _ (Builtin.SmallTypes.nextOf (.ref i1) >>= _) _ _ _;refine wpAny_bind (wpAny_nextOf_list_item (g1.extBut b1.extBut D.i1z) (gl.extBut b1.extBut D.l1z) hx fun a2 n2 b2=>wpAny_pure ?_);have r2:IsPair a2 tb u v:=b2.extBut _ _ D.TOi1 (b1.extBut _ _ D.TOz gr);refine wpAny_bind (wpAny_seqItems r2 rfl (wpAny_bind (wpAny_updateSeq_pair r2 fun a3 r3 b3=>?_)))
 replace r3:IsPair a3 tb x v:=r3
 refine wpAny_bind (wpAny_letGo (wpAny_pure (wpAny_bind (wpAny_bind (wpAny_onRaise ?_)))));show wpAny _ _ (Builtin.SmallTypes.nextOf (.ref i2) >>= _) _ _ _;have m2:IsTupIter a3 i2 l2 k2:=IsTupIter.at' g2 fun o q=>b3.extBut _ _ D.TOi2.symm (b2.extBut _ _ D.i12.symm (b1.extBut _ _ D.i2z q))
 have mt:IsTup a3 l2 ys:=IsTup.at' gt fun o q=>b3.extBut _ _ D.l2TO (b2.extBut _ _ D.l2i1 (b1.extBut _ _ D.l2z q))
 refine wpAny_bind (Bo m2 mt hy fun a4 n4 b4=>wpAny_pure ?_);have r4:IsPair a4 tb x v:=b4.extBut _ _ D.TOi2 r3;refine wpAny_bind (wpAny_seqItems r4 rfl (wpAny_bind (wpAny_updateSeq_pair r4 fun a5 r5 b5=>?_)))
 replace r5:IsPair a5 tb x y:=r5
 refine wpAny_bind (wpAny_letGo (wpAny_pure (wpAny_pure (wpAny_bind (wpAny_seqItems r5 rfl (wpAny_bind (wpAny_newTuple ?_)))))));have sz5:a5.objs.size=s.heap.objs.size:=by rw[b5.1,b4.1,b3.1,b2.1,b1.1]
 have z5:IsZip a5 z ta tb .ellipsis:=b5.extBut _ _ D.TOz.symm (b4.extBut _ _ D.i2z.symm (b3.extBut _ _ D.TOz.symm (b2.extBut _ _ D.i1z.symm z1)));have k5:∀c o,c≠z->c≠tb->c≠i1->c≠i2->s.heap.get? c=some o->a5.get? c=some o:=fun c o c1 c2 c3 c4 q=>
  b5.extBut _ _ c2 (b4.extBut _ _ c4 (b3.extBut _ _ c2 (b2.extBut _ _ c3 (b1.extBut _ _ c1 q))))
 have m1:a5.IsListIter i1 l1 (k1+1):=((n2.extBut b3.extBut D.TOi1.symm).extBut b4.extBut D.i12).extBut b5.extBut D.TOi1.symm;have m5:IsTupIter a5 i2 l2 (k2+1):=IsTupIter.at' n4 fun o q=>b5.extBut _ _ D.TOi2.symm q
 have zlt:z<a5.objs.size:=Heap.lt_size z5;show wpAny _ _ (Builtin.SmallTypes.ownedTupleHandOut (.ref z) (.ref a5.objs.size) >>= _) _ _ _;refine wpAny_bind ?_;unfold Builtin.SmallTypes.ownedTupleHandOut;have z6:IsZip (a5.push {cls:=.type "tuple",data:=.seq #[x,y]}) z ta tb .ellipsis:=Heap.get?_push_of_some _ z5;refine wpAny_bind (wpAny_setField_rec z6 (by simp) fun a7 z7 b7=>?_)
 replace z7:IsZip a7 z ta tb (rawInt a5.objs.size):=z7
 refine wpAny_setField_rec z7 (by simp) fun a8 z8 b8=>?_
 replace z8:IsZip a8 z ta tb (rawInt a5.objs.size):=z8
 have up:∀c o,c≠z->a5.get? c=some o->a8.get? c=some o:=fun c o c1 q=>b8.extBut _ _ c1 (b7.extBut _ _ c1 (Heap.get?_push_of_some _ q))
 have t8:IsPair a8 a5.objs.size x y:=b8.extBut _ _ (ne_of_gt zlt) (b7.extBut _ _ (ne_of_gt zlt) (Heap.get?_push_size _ rfl));have sz8:a8.objs.size=a5.objs.size+1:=by rw[b8.1,b7.1,Heap.size_push]
 rw[sz5]at z8 t8 sz8;refine wpAny_pure ⟨_,rfl,?_⟩;show Q (.ref a5.objs.size) _;rw[sz5];exact go a8 z8 (up _ _ D.TOz r5) (m1.at fun o q=>up _ o D.i1z q) (IsTupIter.at' m5 fun o q=>up _ o D.i2z q) t8 sz8 fun c o c1 c2 c3 c4 q=>up c o c1 (k5 c o c1 c2 c3 c4 q)
theorem DY{z ta tb i1 i2 l1:Addr}{k1:Nat}{xs:Array Value}{u v:Value}{Q:Fin->Shared->Prop}(calm:A.handled=none)(n1:i1≠z)(n2:l1≠z)
  (gz:IsZip s.heap z ta tb .none) (gi:IsPair s.heap ta (.ref i1) (.ref i2)) (gr:IsPair s.heap tb u v) (g1:s.heap.IsListIter i1 l1 k1) (gl:s.heap.IsList l1 xs) (hx:xs[k1]?=none)
  (go:∀h' e,(∀c o,c≠z->c≠i1->s.heap.get? c=some o->h'.get? c=some o)->(∃o,h'.get? e=some o/\o.cls=.type "StopIteration")->E (.ref e) {s with heap:=h'}):
  wpAny (model prog w) A (Builtin.«zip.__next__» ⟨[.ref z],[]⟩) Q E s:=by
 show wpAny _ _ (field (.ref z) 2 >>= _) _ _ _;refine wpAny_bind (wpAny_field gz rfl (x:=.bool false) rfl ?_);show wpAny _ _ (field (.ref z) 3 >>= _) _ _ _;refine wpAny_bind (wpAny_field gz rfl (x:=.ref ta) rfl (wpAny_bind (wpAny_seqItems gi rfl ?_)));show wpAny _ _ (Builtin.SmallTypes.ownedTupleIsFree (.ref z) >>= _) _ _ _;refine wpAny_bind ?_;unfold Builtin.SmallTypes.ownedTupleIsFree;refine wpAny_bind (wpAny_field gz rfl (x:=.none) rfl (wpAny_pure ?_));simp only[if_true];refine wpAny_bind (wpAny_rule (wpAny_bind (wpAny_field gz rfl (x:=.ref tb) rfl (wpAny_bind (wpAny_setField_rec gz (by simp) fun a1 z1 b1=>?_)))))
 replace z1:IsZip a1 z ta tb .ellipsis:=z1
 refine wpAny_bind ?_;simp only[List.zipIdx_cons,List.zipIdx_nil,forIn_cons,forIn_nil];refine wpAny_bind (wpAny_bind (wpAny_onRaise ?_));show wpAny _ _ (Builtin.SmallTypes.nextOf (.ref i1) >>= _) _ _ _;refine wpAny_bind (wpAny_nextOf_list_end calm (g1.extBut b1.extBut n1) (gl.extBut b1.extBut n2) hx fun a2 e b2 he=>?_);obtain⟨oe,hoe,hce⟩:=he;have z2:IsZip a2 z ta tb .ellipsis:=b2 _ _ n1.symm z1;have nez:e≠z:=fun q=>by subst q;rw[z2]at hoe;cases hoe;simp at hce
 exact wpAny_setField_rec z2 (by simp) fun a3 _ b3=>go a3 e (fun c o c1 c3 q=>b3.extBut _ _ c1 (b2 _ _ c3 (b1.extBut _ _ c1 q))) ⟨oe,b3.extBut _ _ nez hoe,hce⟩
theorem Au{z ta tb i1 i2 l1 l2:Addr}{k1 k2:Nat}{xs ys:Array Value}{x y u v:Value}{Q:Option Value->Shared->Prop}(D:ZipApart z ta tb i1 i2 l1 l2)
  (gz:IsZip s.heap z ta tb .none) (gi:IsPair s.heap ta (.ref i1) (.ref i2)) (gr:IsPair s.heap tb u v) (g1:s.heap.IsListIter i1 l1 k1) (g2:IsTupIter s.heap i2 l2 k2) (gl:s.heap.IsList l1 xs) (gt:IsTup s.heap l2 ys) (hx:xs[k1]?=some x) (hy:ys[k2]?=some y)
  (go:∀h',IsZip h' z ta tb (rawInt s.heap.objs.size)->IsPair h' tb x y->h'.IsListIter i1 l1 (k1+1)->IsTupIter h' i2 l2 (k2+1)->IsPair h' s.heap.objs.size x y->h'.objs.size=s.heap.objs.size+1->
   (∀c o,c≠z->c≠tb->c≠i1->c≠i2->s.heap.get? c=some o->h'.get? c=some o)->Q (some (.ref s.heap.objs.size)) {s with heap:=h'}):wpAny (model prog w) A (pyNext (.ref z)) Q E s:=by
 have ty:s.TypeIs (.ref z) "zip":=⟨_,gz,rfl⟩;unfold pyNext;exact wpAny_bind (wpAny_attempt (wpAny_callSpecial?_slot (name:=Str.ofString "__next__") ty F.slot_zip_next (wpAny_call_entry F.slot_zip_next ty F.entry_zip_next
  (Av D gz gi gr g1 g2 gl gt hx hy fun h' c1 c2 c3 c4 c5 c6 c7=>wpAny_pure (go h' c1 c2 c3 c4 c5 c6 c7)) (F.args_zip_next_1 _))))
theorem As{z ta tb i1 i2 l1:Addr}{k1:Nat}{xs:Array Value}{u v:Value}{Q:Option Value->Shared->Prop}(calm:A.handled=none)(n1:i1≠z)(n2:l1≠z)
  (gz:IsZip s.heap z ta tb .none) (gi:IsPair s.heap ta (.ref i1) (.ref i2)) (gr:IsPair s.heap tb u v) (g1:s.heap.IsListIter i1 l1 k1) (gl:s.heap.IsList l1 xs) (hx:xs[k1]?=none)
  (go:∀h',(∀c o,c≠z->c≠i1->s.heap.get? c=some o->h'.get? c=some o)->Q none {s with heap:=h'}):wpAny (model prog w) A (pyNext (.ref z)) Q E s:=by
 have ty:s.TypeIs (.ref z) "zip":=⟨_,gz,rfl⟩;unfold pyNext;refine wpAny_bind (wpAny_attempt (wpAny_callSpecial?_slot (name:=Str.ofString "__next__") ty F.slot_zip_next (wpAny_call_entry F.slot_zip_next ty F.entry_zip_next
  (DY calm n1 n2 gz gi gr g1 gl hx fun h' e hk he=>?_) (F.args_zip_next_1 _))))
 obtain⟨o,ho,hc⟩:=he;exact wpAny_bind (wpAny_isInstance (T:="StopIteration") (b:=true) ⟨o,ho,hc⟩ isSubtype_stop (wpAny_pure (go _ hk)))
end
abbrev zl1(h:Heap)(l1:Addr):Heap:=h.push {cls:=.type "list_iterator",data:=.fields #[.ref l1,.int 0 0]}
abbrev zl2(h:Heap)(l1 l2:Addr):Heap:=(zl1 h l1).push {cls:=.type "tuple_iterator",data:=.fields #[.ref l2,.int 0 0]}
abbrev zl3(h:Heap)(l1 l2:Addr):Heap:=(zl2 h l1 l2).push {cls:=.type "tuple",data:=.seq #[.ref h.objs.size,.ref (zl1 h l1).objs.size]}
abbrev zl4(h:Heap)(l1 l2:Addr):Heap:=(zl3 h l1 l2).push {cls:=.type "tuple",data:=.seq #[.none,.none]}
abbrev zl5(h:Heap)(l1 l2:Addr):Heap:=(zl4 h l1 l2).push {cls:=.type "zip",data:=.fields #[.none,.bool false,.bool false,.ref (zl2 h l1 l2).objs.size,.ref (zl3 h l1 l2).objs.size]}
theorem DX(l1 l2:Addr)(xs ys:Array Value):
  Meets (Builtin.«zip.__new__» ⟨[.type "zip",.ref l1,.ref l2],[]⟩) (fun _ R s=>s.heap.IsList l1 xs/\IsTup s.heap l2 ys/\R (.ok (.ret (.ref (zl4 s.heap l1 l2).objs.size))) {s with heap:=zl5 s.heap l1 l2}):=
 .of_wp fun prog w A R s h=>by
  obtain⟨hp,g,d,tk,os⟩:=s;obtain⟨gl,gt,h⟩:=h;have yH:=sub_zip;have q1:Heap.IsList (Shared.heap ⟨hp,g,d,tk,os⟩) l1 xs:=gl;have q2:IsTup (Shared.heap ⟨hp.push {cls:=.type "list_iterator",data:=.fields #[.ref l1,.int 0 0]},g,d,tk,os⟩) l2 ys:=IsTup.at' gt fun o z=>Heap.get?_push_of_some _ z
  wp_walk using wpAny_pyIter_list q1,iter_tuple q2
  exact⟨_,rfl,h⟩
section
variable{prog:Program}{w:World}{A:Around}{E:Value->Shared->Prop}{s:Shared}
theorem Cp{l1 l2:Addr}{xs ys:Array Value}{Q:Value->Shared->Prop}(gl:s.heap.IsList l1 xs)(gt:IsTup s.heap l2 ys)
  (go:∀h',IsZip h' (s.heap.objs.size+4) (s.heap.objs.size+2) (s.heap.objs.size+3) .none->IsPair h' (s.heap.objs.size+2) (.ref s.heap.objs.size) (.ref (s.heap.objs.size+1))->IsPair h' (s.heap.objs.size+3) .none .none->
   h'.IsListIter s.heap.objs.size l1 0->IsTupIter h' (s.heap.objs.size+1) l2 0->h'.objs.size=s.heap.objs.size+5->(∀c o,s.heap.get? c=some o->h'.get? c=some o)->Q (.ref (s.heap.objs.size+4)) {s with heap:=h'}):
  wpAny (model prog w) A (call (.type "zip") [.ref l1,.ref l2]) Q E s:=by
 refine callType_new F.called_zip (by decide) (F.typeCall_zip_2 _ _) (F.newCall_zip_2 _ _) (fun ob=>F.args_object_init_3 ob _ _) F.entry_zip_new (DX l1 l2 xs ys) ⟨gl,gt,?_⟩;have y1:(zl1 s.heap l1).objs.size=s.heap.objs.size+1:=Heap.size_push ..;have y2:(zl2 s.heap l1 l2).objs.size=s.heap.objs.size+2:=by rw[Heap.size_push,y1]
 have y3:(zl3 s.heap l1 l2).objs.size=s.heap.objs.size+3:=by rw[Heap.size_push,y2]
 have y4:(zl4 s.heap l1 l2).objs.size=s.heap.objs.size+4:=by rw[Heap.size_push,y3]
 have y5:(zl5 s.heap l1 l2).objs.size=s.heap.objs.size+5:=by rw[Heap.size_push,y4]
 have e5:(zl5 s.heap l1 l2).get? (zl4 s.heap l1 l2).objs.size=some _:=Heap.get?_push_size _ rfl;have e4:(zl5 s.heap l1 l2).get? (zl3 s.heap l1 l2).objs.size=some _:=Heap.get?_push_of_some _ (Heap.get?_push_size _ rfl);have e3:(zl5 s.heap l1 l2).get? (zl2 s.heap l1 l2).objs.size=some _:=Heap.get?_push_of_some _ (Heap.get?_push_of_some _ (Heap.get?_push_size _ rfl));have e2:(zl5 s.heap l1 l2).get? (zl1 s.heap l1).objs.size=some _:=Heap.get?_push_of_some _ (Heap.get?_push_of_some _ (Heap.get?_push_of_some _ (Heap.get?_push_size _ rfl)));have e1:(zl5 s.heap l1 l2).get? s.heap.objs.size=some _:=Heap.get?_push_of_some _ (Heap.get?_push_of_some _ (Heap.get?_push_of_some _ (Heap.get?_push_of_some _ (Heap.get?_push_size _ rfl))));show _/\_;rw[y2,y3,y4]at e5;rw[y1,y2]at e3;rw[y3]at e4;rw[y1]at e2;rw[y4];exact⟨⟨_,e5,rfl⟩,go _ e5 e3 e4 ⟨_,e1,rfl,rfl⟩ ⟨_,e2,rfl,rfl⟩ y5 fun c o q=>Heap.get?_push_of_some _ (Heap.get?_push_of_some _ (Heap.get?_push_of_some _ (Heap.get?_push_of_some _ (Heap.get?_push_of_some _ q))))⟩
end
def Kl(K:Frag)(a b:Addr):It:=
 ⟨fun i H=>∃(xs ys:List V)(x y:V),SqL K H a xs/\SqT K H b ys/\xs[i]?=some x/\ys[i]?=some y,
  fun i H v H'=>∃T x y,v=.ref T/\H T=none/\H'=upd H T (.tup [x,y])/\(∀xs,SqL K H a xs->xs[i]?=some x)/\∀ys,SqT K H b ys->ys[i]?=some y,
  fun i H=>∃xs:List V,SqL K H a xs/\xs.length<=i⟩
theorem AB{P:Program}{w:World}{K:Frag}{elts:List Expr}{kk:Nat}{D6:Pos}{a b z ti tr i1 i2:Addr}(D:ZipApart z ti tr i1 i2 a b):
  Turn P w K (.Tuple elts kk D6) (Kl K a b) [z,ti,tr,i1,i2] z (fun i h=>IsZip h z ti tr .none/\IsPair h ti (.ref i1) (.ref i2)/\(∃x y,IsPair h tr x y)/\h.IsListIter i1 a i/\IsTupIter h i2 b i) where
 mem:=by simp
 obj:=fun i h st c hc=>by
  obtain⟨hz,hI,⟨x,y,hR⟩,⟨o1,e1,_,d1⟩,⟨o2,e2,_,d2⟩⟩:=st;have e':c=z\/c=ti\/c=tr\/c=i1\/c=i2:=by simpa using hc
  rcases e' with q|q|q|q|q
  .rw[q];exact⟨_,hz,fun v q=>nomatch q⟩
  .rw[q];exact⟨_,hI,fun v q=>nomatch q⟩
  .rw[q];exact⟨_,hR,fun v q=>nomatch q⟩
  .rw[q];exact⟨o1,e1,fun v q=>by rw[d1]at q;cases q⟩
  .rw[q];exact⟨o2,e2,fun v q=>by rw[d2]at q;cases q⟩
 keep:=fun i h h' st k=>by
  obtain⟨hz,hI,⟨x,y,hR⟩,h1,h2⟩:=st;exact⟨k z (by simp) _ hz,k ti (by simp) _ hI,⟨x,y,k tr (by simp) _ hR⟩,h1.at fun o q=>k i1 (by simp) o q,IsTupIter.at' h2 fun o q=>k i2 (by simp) o q⟩
 item:=by
  intro X hP hw hK hc i pins s Y H E I hf st hg;subst hP hw hK;obtain⟨hz,hI,⟨x0,y0,hR⟩,h1,h2⟩:=st;obtain⟨xs,ys,x,y,hqx,hqy,hx,hy⟩:=hg;obtain⟨its,rv,p,_⟩:=I.list hqx;obtain⟨tN,rv2,p2,_⟩:=I.tuple hqy;obtain⟨u,hu,ru⟩:=rv.get hx;obtain⟨u2,hu2,ru2⟩:=rv2.get hy;have hzl:z<s.heap.objs.size:=Heap.lt_size hz;refine Au D hz hI hR h1 h2 p.isList p2 (x:=u) (y:=u2) (by simpa using hu) (by simpa using hu2) fun h' z' r' h1' h2' hT hsz hk=>?_
  refine⟨_,rfl,wpAny_letOwnedTupleGo_zip (s:={s with heap:=h'}) z' fun h'' z'' sb=>?_⟩;have hT2:h''.get? s.heap.objs.size=some {cls:=.type "tuple",data:=.seq #[u,u2]}:=(sb.2 _ (ne_of_gt hzl)).trans hT;have new:b9 X.prog X.w (upd H s.heap.objs.size (.tup [x,y])) h'' s.heap.objs.size (.tup [x,y]):=
   ⟨by show 2<=sizeLine;decide,[u,u2],.cons ru (.cons ru2 .nil),⟨_,hT2,rfl,_,rfl⟩⟩
  have I1:Inv X pins Y (upd H s.heap.objs.size (.tup [x,y])) {s with heap:=h''}:=
   I.D1 (t':=s.toks) (ch:=[z,ti,tr,i1,i2]) (fun c o hb q=>(sb.2 c (fun q'=>hb (by simp[q']))).trans (hk c o (fun q'=>hb (by simp[q'])) (fun q'=>hb (by simp[q'])) (fun q'=>hb (by simp[q'])) (fun q'=>hb (by simp[q'])) q)) hf (le_refl _) new
  refine⟨.ref s.heap.objs.size,_,I1,rfl,⟨_,x,y,rfl,I.hok.fresh (le_refl _),rfl,fun l hl=>by rw[I.rC hl hqx];exact hx,fun l hl=>by rw[I.tY hl hqy];exact hy⟩,⟨z'',?_,⟨u,u2,?_⟩,?_,?_⟩,fun c hcm=>?_⟩
  .exact(sb.2 _ D.TIz).trans (hk _ _ D.TIz D.TITO D.TIi1 D.TIi2 hI)
  .exact(sb.2 _ D.TOz).trans r'
  .exact h1'.at fun o q=>(sb.2 _ D.i1z).trans q
  .exact IsTupIter.at' h2' fun o q=>(sb.2 _ D.i2z).trans q
  .have hlt:c<s.heap.objs.size:=by
    have e':c=z\/c=ti\/c=tr\/c=i1\/c=i2:=by simpa using hcm
    rcases e' with q|q|q|q|q
    .rw[q];exact hzl
    .rw[q];exact Heap.lt_size hI
    .rw[q];exact Heap.lt_size hR
    .rw[q];obtain⟨_,e1,_⟩:=h1;exact Heap.lt_size e1
    .rw[q];obtain⟨_,e2,_⟩:=h2;exact Heap.lt_size e2
   rw[aq (ne_of_lt hlt)];exact(hf c hcm).1
 done:=by
  intro X hP hw hK hc i pins s Y H E I hf st hg;subst hP hw hK;obtain⟨hz,hI,⟨x0,y0,hR⟩,h1,h2⟩:=st;obtain⟨xs,hqx,Y3⟩:=hg;obtain⟨its,rv,p,_⟩:=I.list hqx;have l1:=rv.length;exact As (I.ok.hd hc) D.i1z D.l1z hz hI hR h1 p.isList (by simp;omega) fun h' hk=>⟨rfl,I.LF (t':=s.toks) (ch:=[z,ti,tr,i1,i2]) (fun c o hb q=>
   hk c o (fun q'=>hb (by simp[q'])) (fun q'=>hb (by simp[q'])) q) hf⟩
 self:=fun A i s Q E st h=>wpAny_pyIter_zip st.1 h
def T2(K:Frag)(ta:TA):TI:=fun Y H R=>ta Y H fun vs H1=>∃a b xs ys,vs=[.ref a,.ref b]/\SqL K H1 a xs/\SqT K H1 b ys/\R (Kl K a b) H1
theorem yc{X:Cx}{e e2:Expr}{ta:TA}{p pos D6:Pos}{elts:List Expr}{kk:Nat}(hg:Gl X "zip")(hm:X.mg "zip"=none)(ha:PA X [e,e2] ta)
  (hs:starEach [e,e2] X.env=(false,eval e X.env)::starEach [e2] X.env:=by rfl) (hpl:(backTo pos (starEach [e2] X.env)).any (·.1)=false:=by rfl):
  PI X (.Tuple elts kk D6) (.Call (.Name "zip" p) [e,e2] [] pos) (T2 X.K ta):=by
 intro pins s Y H R I h;refine Call_ (jh I hg hm FV (PyProof.Rows.callWith_type1 (thn (ha pos pins s Y H _ I h) fun us s1 hZ=>?_) hs hpl));obtain⟨vs,H1,I1,r1,q1⟩:=hZ;obtain⟨a,b,xs,ys,ex,hqx,hqy,q⟩:=q1;subst ex;cases r1 with
 |cons r rr=>
  cases rr with
  |cons r' rr=>
   cases rr;cases r;cases r';obtain⟨its,rv,p1,_⟩:=I1.list hqx;obtain⟨tN,rv2,p2,_⟩:=I1.tuple hqy;have la:a<s1.heap.objs.size:=p1.lt;have lb:b<s1.heap.objs.size:=p2.lt;refine Cp p1.isList p2 fun h' hz hI hR h1 h2 hsz hk=>wpAny_pyIter_zip hz ?_
   have I2:Inv X pins Y H1 {s1 with heap:=h'}:=I1.kept (t':=s1.toks) hk;refine⟨s1.heap.objs.size+4,[s1.heap.objs.size+4,s1.heap.objs.size+2,s1.heap.objs.size+3,s1.heap.objs.size,s1.heap.objs.size+1],_,_,H1,rfl,I2,AB (PySem.W.ktu_apart s1.heap.objs.size a b la lb),⟨hz,hI,⟨_,_,hR⟩,h1,h2⟩,fun c hcm=>?_,q⟩;have e':c=s1.heap.objs.size+4\/c=s1.heap.objs.size+2\/c=s1.heap.objs.size+3\/c=s1.heap.objs.size\/c=s1.heap.objs.size+1:=by simpa using hcm
   have hle:s1.heap.objs.size<=c:=by
    rcases e' with z|z|z|z|z<;>rw[z]<;>first|exact Nat.le_add_right _ _|exact le_refl _
   exact I1.Ft hle (I1.hok.fresh hle)
end L2
namespace Sg35
theorem len_dropWhile(p:Nat->Bool):∀l:List Nat,(l.dropWhile p).length<=l.length
 |[]=>le_refl _
 |a::r=>by
  rw[dropWhile_cons];split
  .exact Nat.le_succ_of_le (len_dropWhile p r)
  .exact le_refl _
theorem len_takeWhile(p:Nat->Bool):∀l:List Nat,(l.takeWhile p).length<=l.length
 |[]=>le_refl _
 |a::r=>by
  rw[takeWhile_cons];split
  .exact Nat.succ_le_succ (len_takeWhile p r)
  .exact zero_le _
theorem cA(p:Nat->Bool):∀l:List Nat,l.drop (l.takeWhile p).length=l.dropWhile p
 |[]=>rfl
 |a::r=>by
  rw[takeWhile_cons,dropWhile_cons];split
  .simpa using cA p r
  .rfl
theorem aW(b:B):(skip b).length<=b.length:=len_dropWhile _ _
theorem bO(b:B):skip (skip b)=skip b:=by
 unfold skip;induction b with
 |nil=>rfl
 |cons a r ih=>
  rw[dropWhile_cons];split
  .exact ih
  .rename_i h;rw[dropWhile_cons,if_neg h]
theorem gW:∀{r s:B},noteEnd r=some s->s.length<r.length
 |r,s,h=>by
  unfold noteEnd at h;split at h
  .cases h;simp only[length_cons]
   lia
  .rename_i q _;have:=gW h;simp only[length_cons]
   lia
  .cases h
theorem j6{b n q:B}(h:nameAt b=some (n,q)):∃c r,b=c::r/\letter c=true/\n=b.takeWhile inName/\q=b.drop n.length:=by
 unfold nameAt at h;split at h
 .rename_i c r;split at h
  .rename_i hc;cases h;exact⟨c,r,rfl,hc,rfl,rfl⟩
  .cases h
 .cases h
theorem fM{c:Nat}(h:letter c=true):inName c=true:=by unfold inName;rw[h];rfl
theorem dQ{b n q:B}(h:nameAt b=some (n,q)):q.length<b.length/\0<n.length/\b=n++q:=by
 obtain⟨c,r,hb,hc,hn,hq⟩:=j6 h;have e:0<n.length:=by
  rw[hn,hb,takeWhile_cons,if_pos (fM hc)];simp
 have l:n.length<=b.length:=by rw[hn];exact len_takeWhile _ _
 refine⟨by rw[hq,length_drop];lia,e,?_⟩;rw[hq,hn,cA,takeWhile_append_dropWhile]
theorem uk:∀(f g:Nat)(b:B),b.length<f->b.length<g->misc f b=misc g b
 |0,_,b,h,_=>by lia
 |_,0,b,_,h=>by lia
 |f+1,g+1,b,hf,hg=>by
  unfold misc;have hs:=aW b;split
  .rename_i r e;cases hn:noteEnd r with
   |none=>rfl
   |some s=>
    have:=gW hn;rw[e]at hs;simp only[length_cons]at hs;exact uk f g s (by lia) (by lia)
  .rfl
def bM(b:B):Option B:=misc (b.length+1) b
theorem wq{f:Nat}{b:B}(h:b.length<f):misc f b=bM b:=uk _ _ _ h (lt_succ_self _)
theorem gK{b r:B}(e:skip b=60::33::45::45::r):bM b=(noteEnd r).bind bM:=by
 unfold bM;rw[misc];have hs:=aW b;split
 .rename_i r' e';rw[e]at e';cases e';cases hn:noteEnd r with
  |none=>rfl
  |some s=>
   have:=gW hn;rw[e]at hs;simp only[length_cons]at hs;exact wq (by lia)
 .rename_i hno;exact absurd e (hno r)
theorem iF{b:B}(e:∀r,skip b≠60::33::45::45::r):bM b=some (skip b):=by
 unfold bM;rw[misc];split
 .rename_i r' e';exact absurd e' (e r')
 .rfl
theorem nj:∀(f g:Nat)(b:B),b.length<f->b.length<g->attrsAt f b=attrsAt g b
 |0,_,b,h,_=>by lia
 |_,0,b,_,h=>by lia
 |f+1,g+1,b,hf,hg=>by
  unfold attrsAt;have hs:=aW b;dsimp only;split
  .rfl
  .rename_i x hx;obtain⟨n,q⟩:=x;have hl:=dQ hx;split
   .rfl
   .split
    .rename_i q' v e;dsimp only at e;subst e;simp only[length_cons]at hl;split
     .have:(v.drop ((v.takeWhile (valueByte q')).length+1)).length<=v.length:=by rw[length_drop];lia
      rw[nj f g (v.drop ((v.takeWhile (valueByte q')).length+1)) (by lia) (by lia)]
     .rfl
    .rfl
def attrs(b:B):Option (List (B×B)×B):=attrsAt (b.length+1) b
theorem sL{f:Nat}{b:B}(h:b.length<f):attrsAt f b=attrs b:=nj _ _ _ h (lt_succ_self _)
theorem l7{b:B}(h:nameAt (skip b)=none):attrs b=some ([],skip b):=by
 unfold attrs;rw[attrsAt];dsimp only;rw[h]
theorem sI{b:B}{x:B×B}(h:nameAt (skip b)=some x)(e:(skip b).length=b.length):attrs b=none:=by
 unfold attrs;rw[attrsAt];dsimp only;rw[h];dsimp only;rw[if_pos e]
def valueAt(b:B):Option (B×B):=match b with
 |61::q::v=>if q=34\/q=39 then(if (v.drop (v.takeWhile (valueByte q)).length).head?=some q then some (v.takeWhile (valueByte q),v.drop ((v.takeWhile (valueByte q)).length+1))else none)else none
 |_=>none
theorem eV(q:Nat)(v:B):valueAt (61::q::v)=if q=34\/q=39 then(if (v.drop (v.takeWhile (valueByte q)).length).head?=some q then some (v.takeWhile (valueByte q),v.drop ((v.takeWhile (valueByte q)).length+1))else none)else none:=rfl
theorem lG{b:B}(h:∀q v,b≠61::q::v):valueAt b=none:=by
 unfold valueAt;split
 .rename_i q v;exact absurd rfl (h q v)
 .rfl
theorem oH{b w r:B}(h:valueAt b=some (w,r)):r.length<b.length:=by
 unfold valueAt at h;split at h
 .split at h
  .split at h
   .cases h;rw[length_drop];simp only[length_cons]
    lia
   .cases h
  .cases h
 .cases h
theorem sJ{b n q:B}(h:nameAt (skip b)=some (n,q))(e:(skip b).length≠b.length):
  attrs b=(valueAt q).bind fun v=>(attrs v.2).bind fun z=>if (z.1.any fun a=>a.1==n)=true then none else some ((n,v.1)::z.1,z.2):=by
 unfold attrs;rw[attrsAt];have hs:=aW b;dsimp only;rw[h];dsimp only;rw[if_neg e];have hl:=dQ h;split
 .rename_i q' v;simp only[length_cons]at hl;rw[eV];by_cases hq:q'=34\/q'=39
  .rw[if_pos hq,if_pos hq];by_cases hv:(v.drop (v.takeWhile (valueByte q')).length).head?=some q'
   .rw[if_pos hv,if_pos hv];have:(v.drop ((v.takeWhile (valueByte q')).length+1)).length<=v.length:=by rw[length_drop];lia
    rw[sL (f:=b.length) (by lia)];rfl
   .rw[if_neg hv,if_neg hv];rfl
  .rw[if_neg hq,if_neg hq];rfl
 .rename_i hno;rw[lG hno];rfl
def unsigned(b:B):B:=if (b.head?==some 45||b.head?==some 43)=true then b.drop 1 else b
theorem u5(b:B):(unsigned b).length<=b.length:=by
 unfold unsigned;split
 .rw[length_drop];lia
 .exact le_refl _
theorem cI(b:B):numberAt b=if (unsigned b).takeWhile digit=[]\/5<((unsigned b).takeWhile digit).length\/MOST<natOf ((unsigned b).takeWhile digit)then none
  else some (if b.head?=some 45 then -(natOf ((unsigned b).takeWhile digit):Int)else natOf ((unsigned b).takeWhile digit),(unsigned b).drop ((unsigned b).takeWhile digit).length):=rfl
theorem di{b r:B}{z:Int}(h:numberAt b=some (z,r)):r.length<b.length:=by
 rw[cI]at h;split at h
 .cases h
 .rename_i hn;have h2:=congrArg Prod.snd (Option.some.inj h);dsimp only at h2;rw[<-h2,length_drop];have h0:0<((unsigned b).takeWhile digit).length:=length_pos_iff.mpr fun e=>hn (Or.inl e)
  have hle:=len_takeWhile digit (unsigned b);have:=u5 b
  lia
theorem eQ{b r:B}(h:between b=some r):r.length<=b.length:=by
 unfold between at h;dsimp only at h;have hs:=aW b;split at h
 .rename_i q e;cases h;have:=aW q;rw[e]at hs;simp only[length_cons]at hs
  lia
 .split at h
  .cases h;exact hs
  .cases h
theorem j5:∀(f g:Nat)(b:B),b.length<f->b.length<g->numbersAt f b=numbersAt g b
 |0,_,b,h,_=>by lia
 |_,0,b,_,h=>by lia
 |f+1,g+1,b,hf,hg=>by
  unfold numbersAt;cases hx:numberAt b with
  |none=>rfl
  |some x=>
   obtain⟨z,q⟩:=x;have hl:=di hx;dsimp only[bind_some];split
   .cases hb:between q with
    |none=>rfl
    |some r=>
     have:=eQ hb;dsimp only[bind_some];rw[j5 f g r (by lia) (by lia)]
   .rfl
def bf(b:B):Option (List Int×B):=numbersAt (b.length+1) b
theorem jb{f:Nat}{b:B}(h:b.length<f):numbersAt f b=bf b:=j5 _ _ _ h (lt_succ_self _)
theorem cP(b:B):bf b=(numberAt b).bind fun x=>if beginsNumber (skip x.2)=true\/(skip x.2).head?=some 44 then(between x.2).bind fun r=>(bf r).map fun y=>(x.1::y.1,y.2)else some ([x.1],skip x.2):=by
 unfold bf;rw[numbersAt];cases hx:numberAt b with
 |none=>rfl
 |some x=>
  obtain⟨z,q⟩:=x;have hl:=di hx;dsimp only[bind_some];split
  .cases hb:between q with
   |none=>rfl
   |some r=>
    have:=eQ hb;dsimp only[bind_some];rw[jb (by lia)];rfl
  .rfl
theorem EW(p:Nat->Bool)(l:B):(l.drop (l.takeWhile p).length).length<=l.length:=by rw[length_drop];lia
def bB(r:B):Option (Mat×B):=match r.drop (r.takeWhile letter).length with
 |40::q=>if (q.takeWhile fun c=>c != 41).length=q.length then none else(row (q.takeWhile fun c=>c != 41)).bind fun l=>(turning (r.takeWhile letter) l).map fun t=>(t,q.drop ((q.takeWhile fun c=>c != 41).length+1))
 |_=>none
theorem jK{r q:B}(e:r.drop (r.takeWhile letter).length=40::q):bB r=if (q.takeWhile fun c=>c != 41).length=q.length then none else(row (q.takeWhile fun c=>c != 41)).bind fun l=>(turning (r.takeWhile letter) l).map fun t=>(t,q.drop ((q.takeWhile fun c=>c != 41).length+1)):=by
 unfold bB;rw[e];rfl
theorem u9{r:B}(h:∀q,r.drop (r.takeWhile letter).length≠40::q):bB r=none:=by
 unfold bB;split
 .rename_i q e;exact absurd e (h q)
 .rfl
theorem ia{r q:B}{t:Mat}(h:bB r=some (t,q)):q.length<r.length:=by
 unfold bB at h;have hl:=EW letter r;split at h
 .rename_i v e;rw[e]at hl;simp only[length_cons]at hl;split at h
  .cases h
  .cases hr:row (v.takeWhile fun c=>c != 41)with
   |none=>rw[hr]at h;cases h
   |some l=>
    rw[hr]at h;dsimp only[bind_some]at h;cases ht:turning (r.takeWhile letter) l with
    |none=>rw[ht]at h;cases h
    |some m=>
     rw[ht]at h;cases h;rw[length_drop]
     lia
 .cases h
theorem hV(f:Nat)(m:Mat)(b:B):turnings (f+1) m b=if skip b=[]then some m else(bB (skip b)).bind fun x=>if (m.times x.1).fits=true then turnings f (m.times x.1) x.2 else none:=by
 rw[turnings];dsimp only;by_cases h:skip b=[]
 .rw[if_pos h,if_pos h]
 .rw[if_neg h,if_neg h];split
  .rename_i q e;rw[jK e];by_cases hw:(q.takeWhile fun c=>c != 41).length=q.length
   .rw[if_pos hw,if_pos hw];rfl
   .rw[if_neg hw,if_neg hw];cases row (q.takeWhile fun c=>c != 41)with
    |none=>rfl
    |some l=>
     dsimp only[bind_some];cases turning ((skip b).takeWhile letter) l with
     |none=>rfl
     |some t=>rfl
  .rename_i hno;rw[u9 hno];rfl
theorem kZ:∀(f g:Nat)(m:Mat)(b:B),b.length<f->b.length<g->turnings f m b=turnings g m b
 |0,_,_,b,h,_=>by lia
 |_,0,_,b,_,h=>by lia
 |f+1,g+1,m,b,hf,hg=>by
  rw[hV,hV];have hs:=aW b;split
  .rfl
  .cases hx:bB (skip b)with
   |none=>rfl
   |some x=>
    obtain⟨t,q⟩:=x;have:=ia hx;dsimp only[bind_some];rw[kZ f g _ q (by lia) (by lia)]
def turned(m:Mat)(b:B):Option Mat:=turnings (b.length+1) m b
theorem xr{f:Nat}{m:Mat}{b:B}(h:b.length<f):turnings f m b=turned m b:=kZ _ _ _ _ h (lt_succ_self _)
theorem eK(m:Mat)(b:B):turned m b=if skip b=[]then some m else(bB (skip b)).bind fun x=>if (m.times x.1).fits=true then turned (m.times x.1) x.2 else none:=by
 unfold turned;rw[hV];have hs:=aW b;split
 .rfl
 .cases hx:bB (skip b)with
  |none=>rfl
  |some x=>
   obtain⟨t,q⟩:=x;have:=ia hx;dsimp only[bind_some];rw[xr (by lia)];rfl
theorem j0{b r:B}{l:List Int}(h:bf b=some (l,r)):r.length<b.length:=by
 rw[cP]at h;cases hx:numberAt b with
 |none=>rw[hx]at h;cases h
 |some x=>
  obtain⟨z,q⟩:=x;have hl:=di hx;rw[hx]at h;dsimp only[bind_some]at h;split at h
  .cases hb:between q with
   |none=>rw[hb]at h;cases h
   |some v=>
    rw[hb]at h;dsimp only[bind_some]at h;cases hy:bf v with
    |none=>rw[hy]at h;cases h
    |some y=>
     obtain⟨l',r'⟩:=y;have h1:=eQ hb;have h2:=j0 hy;rw[hy]at h;cases h;dsimp only
     lia
  .cases h;have:=aW q
   lia
termination_by b.length
decreasing_by lia
def aC(c:Nat):Nat:=if decide (97<=c)=true then c-32 else c
def Pen.cq(p:Pen):Pen:={p with x:=p.sx,y:=p.sy,line:=[],done:=if p.line=[]then p.done else p.done++[p.line.reverse]}
theorem gs(f:Nat)(p:Pen)(b:B):Pen.letters (f+1) p b=match skip b with
  |[]=>some p
  |c::r=>if aC c=90 then Pen.letters f p.cq r else if letter c=false\/arity (aC c)=0 then none
   else(bf (skip r)).bind fun x=>(Pen.rows (x.1.length+1) p (aC c) (decide (97<=c)) x.1).bind fun q=>Pen.letters f q x.2:=by
 rw[Pen.letters];split
 .rename_i e;rw[e]
 .rename_i c r e;rw[e];dsimp only;have:=aW r;rw[jb (by lia)];rfl
theorem jg:∀(f g:Nat)(p:Pen)(b:B),b.length<f->b.length<g->Pen.letters f p b=Pen.letters g p b
 |0,_,_,b,h,_=>by lia
 |_,0,_,b,_,h=>by lia
 |f+1,g+1,p,b,hf,hg=>by
  rw[gs,gs];have hs:=aW b;split
  .rfl
  .rename_i c r e;rw[e]at hs;simp only[length_cons]at hs;rw[jg f g _ r (by lia) (by lia)];split
   .rfl
   .split
    .rfl
    .cases hx:bf (skip r)with
     |none=>rfl
     |some x=>
      obtain⟨l,q⟩:=x;have h1:=j0 hx;have h2:=aW r;dsimp only[bind_some];cases Pen.rows (l.length+1) p (aC c) (decide (97<=c)) l with
      |none=>rfl
      |some pp=>exact jg f g pp q (by lia) (by lia)
def Pen.ft(p:Pen)(b:B):Option Pen:=Pen.letters (b.length+1) p b
theorem rD{f:Nat}{p:Pen}{b:B}(h:b.length<f):Pen.letters f p b=p.ft b:=jg _ _ _ _ h (lt_succ_self _)
theorem rR{p:Pen}{b:B}(e:skip b=[]):p.ft b=some p:=by
 unfold Pen.ft;rw[gs,e]
theorem iH{p:Pen}{b r:B}{c:Nat}(e:skip b=c::r):p.ft b=if aC c=90 then p.cq.ft r else if letter c=false\/arity (aC c)=0 then none
   else(bf (skip r)).bind fun x=>(Pen.rows (x.1.length+1) p (aC c) (decide (97<=c)) x.1).bind fun q=>q.ft x.2:=by
 unfold Pen.ft;rw[gs,e];have hs:=aW b;rw[e]at hs;simp only[length_cons]at hs;dsimp only;rw[rD (b:=r) (by lia)];split
 .rfl
 .split
  .rfl
  .cases hx:bf (skip r)with
   |none=>rfl
   |some x=>
    obtain⟨l,q⟩:=x;have h1:=j0 hx;have h2:=aW r;dsimp only[bind_some];cases Pen.rows (l.length+1) p (aC c) (decide (97<=c)) l with
    |none=>rfl
    |some pp=>exact rD (by lia)
theorem uK{b r:B}{l:List (B×B)}(h:attrs b=some (l,r)):r.length<=b.length:=by
 cases hn:nameAt (skip b)with
 |none=>
  rw[l7 hn]at h;cases h;exact aW b
 |some x=>
  by_cases e:(skip b).length=b.length
  .rw[sI hn e]at h;cases h
  .obtain⟨n,q⟩:=x;rw[sJ hn e]at h;have h0:=aW b;have h1:=(dQ hn).1;cases hv:valueAt q with
   |none=>rw[hv]at h;cases h
   |some v=>
    obtain⟨w,u⟩:=v;have h2:=oH hv;rw[hv]at h;dsimp only[bind_some]at h;cases ha:attrs u with
    |none=>rw[ha]at h;cases h
    |some z=>
     obtain⟨l',r'⟩:=z;have h3:=uK ha;rw[ha]at h;dsimp only[bind_some]at h;split at h
     .cases h
     .cases h
      lia
termination_by b.length
decreasing_by lia
theorem d6{b r:B}(h:bM b=some r):r.length<=b.length:=by
 have h0:=aW b;by_cases e:∃q,skip b=60::33::45::45::q
 .obtain⟨q,e⟩:=e;rw[gK e]at h;cases hn:noteEnd q with
  |none=>rw[hn]at h;cases h
  |some s=>
   have h1:=gW hn;rw[e]at h0;simp only[length_cons]at h0;rw[hn]at h;have hlt:s.length<b.length:=by lia
   have h2:=d6 (b:=s) (r:=r) h
   lia
 .rw[iF fun q z=>e ⟨q,z⟩]at h;cases h;exact h0
termination_by b.length
decreasing_by
 simp_wf
 lia
structure Tag where
 name:B
 attrs:List (B×B)
 cq:Bool
 rest:B
def jL(n:B)(a:List (B×B))(r:B):Option Tag:=match r with
 |47::62::q=>some ⟨n,a,true,q⟩
 |62::q=>some ⟨n,a,false,q⟩
 |_=>none
def cT(b:B):Option Tag:=(nameAt b).bind fun n=>(attrs n.2).bind fun a=>jL n.1 a.1 a.2
def closeEnd(n m r:B):Option B:=match r with
 |62::q=>if m=n then some q else none
 |_=>none
def bE(n b:B):Option B:=(nameAt b).bind fun m=>closeEnd n m.1 m.2
theorem AH{n:B}{a:List (B×B)}{r:B}{t:Tag}(h:jL n a r=some t):t.rest.length<r.length:=by
 unfold jL at h;split at h
 .cases h;simp only[length_cons];lia
 .cases h;simp only[length_cons];lia
 .cases h
theorem eM{b:B}{t:Tag}(h:cT b=some t):t.rest.length+1<b.length:=by
 unfold cT at h;cases hn:nameAt b with
 |none=>rw[hn]at h;cases h
 |some n=>
  rw[hn]at h;dsimp only[bind_some]at h;obtain⟨n,q⟩:=n;have h1:=(dQ hn).1;cases ha:attrs q with
  |none=>rw[ha]at h;cases h
  |some a=>
   obtain⟨a,r⟩:=a;rw[ha]at h;dsimp only[bind_some]at h;have h2:=uK ha;have h3:=AH h
   lia
theorem xa{n m r q:B}(h:closeEnd n m r=some q):q.length<r.length:=by
 unfold closeEnd at h;split at h
 .split at h
  .cases h;simp only[length_cons];lia
  .cases h
 .cases h
theorem fV{n b q:B}(h:bE n b=some q):q.length+1<b.length:=by
 unfold bE at h;cases hn:nameAt b with
 |none=>rw[hn]at h;cases h
 |some m=>
  rw[hn]at h;obtain⟨m,r⟩:=m;have h1:=(dQ hn).1;dsimp only[bind_some]at h;have h2:=xa h
  lia
theorem oJ(n:B)(a:List (B×B))(q:B):jL n a (47::62::q)=some ⟨n,a,true,q⟩:=rfl
theorem oK(n:B)(a:List (B×B))(q:B):jL n a (62::q)=some ⟨n,a,false,q⟩:=rfl
theorem nM{n:B}{a:List (B×B)}{r:B}(h1:∀q,r≠47::62::q)(h2:∀q,r≠62::q):jL n a r=none:=by
 unfold jL;split
 .exact absurd rfl (h1 _)
 .exact absurd rfl (h2 _)
 .rfl
theorem ij(n m q:B):closeEnd n m (62::q)=if m=n then some q else none:=rfl
theorem pb{n m r:B}(h:∀q,r≠62::q):closeEnd n m r=none:=by
 unfold closeEnd;split
 .exact absurd rfl (h _)
 .rfl
theorem gw(f:Nat)(b:B):element (f+1) b=(cT b).bind fun t=>if t.cq=true then some (.mk t.name t.attrs [],t.rest)
  else(content f t.rest).bind fun k=>(bE t.name k.2).map fun q=>(.mk t.name t.attrs k.1,q):=by
 rw[element];unfold cT;cases hn:nameAt b with
 |none=>rfl
 |some n=>
  obtain⟨n,q⟩:=n;have h1:=(dQ hn).1;dsimp only[bind_some];rw[sL (f:=b.length+1) (by lia)];cases attrs q with
  |none=>rfl
  |some a=>
   obtain⟨a,r⟩:=a;dsimp only[bind_some];split
   .rw[oJ];rfl
   .rename_i q';rw[oK];dsimp only[bind_some];rw[if_neg (by decide)];cases content f q' with
    |none=>rfl
    |some k=>
     dsimp only[bind_some];unfold bE;cases nameAt k.2 with
     |none=>rfl
     |some m=>
      dsimp only[bind_some];split
      .rename_i q2 e2;rw[e2,ij];split
       .rfl
       .rfl
      .rename_i h2;rw[pb h2];rfl
   .rename_i h2 h3;rw[nM h2 h3];rfl
def mR(f:Nat)(r:B):Option (List El×B):=match r with
 |60::47::q=>some ([],q)
 |60::q=>(element f q).bind fun x=>(content f x.2).map fun y=>(x.1::y.1,y.2)
 |_=>none
theorem d9(f:Nat)(b:B):content (f+1) b=(bM b).bind fun r=>mR f r:=by
 rw[content];rfl
mutual
theorem ko:∀{f:Nat}{b q:B}{x:El},element f b=some (x,q)->q.length+1<b.length
 |0,b,q,x,h=>by rw[element]at h;cases h
 |f+1,b,q,x,h=>by
  rw[gw]at h;cases ht:cT b with
  |none=>rw[ht]at h;cases h
  |some t=>
   have h1:=eM ht;rw[ht]at h;dsimp only[bind_some]at h;split at h
   .cases h;exact h1
   .cases hc:content f t.rest with
    |none=>rw[hc]at h;cases h
    |some k=>
     obtain⟨ks,r⟩:=k;have h2:=hG hc;rw[hc]at h;dsimp only[bind_some]at h;cases hq:bE t.name r with
     |none=>rw[hq]at h;cases h
     |some v=>
      have h3:=fV hq;rw[hq]at h;cases h
      lia
theorem hG:∀{f:Nat}{b q:B}{x:List El},content f b=some (x,q)->q.length<b.length
 |0,b,q,x,h=>by rw[content]at h;cases h
 |f+1,b,q,x,h=>by
  rw[d9]at h;cases hm:bM b with
  |none=>rw[hm]at h;cases h
  |some r=>
   have h1:=d6 hm;rw[hm]at h;dsimp only[bind_some]at h;unfold mR at h;split at h
   .cases h;simp only[length_cons]at h1
    lia
   .rename_i v _;simp only[length_cons]at h1;cases he:element f v with
    |none=>rw[he]at h;cases h
    |some y=>
     obtain⟨y,u⟩:=y;have h2:=ko he;rw[he]at h;dsimp only[bind_some]at h;cases hc:content f u with
     |none=>rw[hc]at h;cases h
     |some k=>
      obtain⟨ks,r⟩:=k;have h3:=hG hc;rw[hc]at h;simp only[map_some,Option.some.injEq,Prod.mk.injEq]at h;obtain⟨_,rfl⟩:=h
      lia
   .cases h
end
mutual
theorem m4:∀(f g:Nat)(b:B),2*b.length+1<=f->2*b.length+1<=g->element f b=element g b
 |0,_,b,h,_=>by lia
 |_,0,b,_,h=>by lia
 |f+1,g+1,b,hf,hg=>by
  rw[gw,gw];cases ht:cT b with
  |none=>rfl
  |some t=>
   have h1:=eM ht;dsimp only[bind_some];rw[jo f g t.rest (by lia) (by lia)]
theorem jo:∀(f g:Nat)(b:B),2*b.length+2<=f->2*b.length+2<=g->content f b=content g b
 |0,_,b,h,_=>by lia
 |_,0,b,_,h=>by lia
 |f+1,g+1,b,hf,hg=>by
  rw[d9,d9];cases hm:bM b with
  |none=>rfl
  |some r=>
   have h1:=d6 hm;dsimp only[bind_some];unfold mR;split
   .rfl
   .rename_i v _;simp only[length_cons]at h1;rw[m4 f g v (by lia) (by lia)];cases he:element g v with
    |none=>rfl
    |some y=>
     obtain⟨y,u⟩:=y;have h2:=ko he;dsimp only[bind_some];rw[jo f g u (by lia) (by lia)]
   .rfl
end
def kids(b:B):Option (List El×B):=content (2*b.length+2) b
def el(b:B):Option (El×B):=element (2*b.length+1) b
theorem sv{f:Nat}{b:B}(h:2*b.length+2<=f):content f b=kids b:=jo _ _ _ h (le_refl _)
theorem rY{f:Nat}{b:B}(h:2*b.length+1<=f):element f b=el b:=m4 _ _ _ h (le_refl _)
theorem Pw(b:B):el b=(cT b).bind fun t=>if t.cq=true then some (.mk t.name t.attrs [],t.rest)else(kids t.rest).bind fun k=>(bE t.name k.2).map fun q=>(.mk t.name t.attrs k.1,q):=by
 unfold el;rw[gw];cases ht:cT b with
 |none=>rfl
 |some t=>
  have h1:=eM ht;dsimp only[bind_some];rw[sv (by lia)]
theorem IK{b q:B}(h:bM b=some (60::47::q)):kids b=some ([],q):=by
 unfold kids;rw[d9,h];rfl
theorem E3{b q:B}(h:bM b=some (60::q))(hq:∀v,q≠47::v):kids b=(el q).bind fun x=>(kids x.2).map fun y=>(x.1::y.1,y.2):=by
 unfold kids;rw[d9,h];have h1:=d6 h;simp only[length_cons]at h1;dsimp only[bind_some];unfold mR;split
 .rename_i v e;cases e;exact absurd rfl (hq v)
 .rename_i v _ e;cases e;rw[rY (by lia)];cases he:el q with
  |none=>rfl
  |some y=>
   obtain⟨y,u⟩:=y;have h2:=ko he;dsimp only[bind_some];rw[sv (by lia)];rfl
 .rename_i h2;exact absurd rfl (h2 q)
theorem MI{b:B}(h:∀q,bM b≠some (60::q)):kids b=none:=by
 unfold kids;rw[d9];cases hm:bM b with
 |none=>rfl
 |some r=>
  dsimp only[bind_some];unfold mR;split
  .rename_i v;exact absurd hm (h _)
  .rename_i v _;exact absurd hm (h _)
  .rfl
structure Fr where
 name:B
 shape:Bool
 k:Nat
 cR:Style
def dU(h:Fr)(ks:List El):Option (List Shape):=if h.shape=true then(if ks.isEmpty=true then some []else none)else allShapes h.k h.cR ks
theorem bK{h:Fr}(e:h.shape=false)(ks:List El):dU h ks=allShapes h.k h.cR ks:=by
 unfold dU;rw[e,if_neg Bool.false_ne_true]
theorem kl{h:Fr}(e:h.shape=true)(ks:List El):dU h ks=if ks.isEmpty=true then some []else none:=by
 unfold dU;rw[if_pos e]
theorem lB(k:Nat)(s:Style):allShapes k s []=some []:=by rw[allShapes.eq_def]
theorem dX(k:Nat)(s:Style)(e:El)(r:List El):allShapes k s (e::r)=(shapes k s e).bind fun x=>(allShapes k s r).map fun y=>x++y:=by rw[allShapes.eq_def]
theorem mZ(h:Fr):dU h []=some []:=by
 unfold dU;split
 .rfl
 .exact lB _ _
def child(h:Fr)(n:B)(as:List (B×B)):Option (Fr×List Shape):=
 if h.shape=true then none
 else if n=ascii "g" then(if h.k=0 then none else(styled h.cR as true).map fun t=>(⟨n,false,h.k-1,t⟩,[]))
 else(kindOf n as).bind fun q=>(styled h.cR as true).map fun t=>(⟨n,true,0,t⟩,[⟨q,t.fill,t.odd,t.mat⟩])
theorem Gz(k:Nat)(s:Style)(as:List (B×B))(ks:List El){n:B}(hg:n=ascii "g"):shapes k s (.mk n as ks)=if k=0 then none else(styled s as true).bind fun t=>allShapes (k-1) t ks:=by
 cases k with
 |zero=>
  rw[shapes.eq_def];dsimp only;rw[if_pos hg];rfl
 |succ k=>
  rw[shapes.eq_def];dsimp only;rw[if_pos hg];rfl
theorem Em(k:Nat)(s:Style)(as:List (B×B))(ks:List El){n:B}(hg:¬n=ascii "g"):shapes k s (.mk n as ks)=(kindOf n as).bind fun q=>(styled s as true).bind fun t=>if ks.isEmpty=true then some [⟨q,t.fill,t.odd,t.mat⟩]else none:=by
 rw[shapes.eq_def];dsimp only;rw[if_neg hg]
theorem eX{h:Fr}(hs:h.shape=false)(n:B)(as:List (B×B))(ks:List El):shapes h.k h.cR (.mk n as ks)=(child h n as).bind fun c=>(dU c.1 ks).map fun l=>c.2++l:=by
 unfold child;rw[hs];rw[if_neg (show ¬false=true from Bool.false_ne_true)];by_cases hg:n=ascii "g"
 .rw[if_pos hg,Gz _ _ _ _ hg];cases hk:h.k with
  |zero=>rfl
  |succ k=>
   rw[if_neg (by lia),if_neg (by lia)];cases styled h.cR as true with
   |none=>rfl
   |some t=>
    dsimp only[bind_some,map_some];rw[bK rfl];dsimp only;rw[Nat.add_sub_cancel];cases allShapes k t ks with
    |none=>rfl
    |some l=>rfl
 .rw[if_neg hg,Em _ _ _ _ hg];cases kindOf n as with
  |none=>rfl
  |some q=>
   dsimp only[bind_some];cases styled h.cR as true with
   |none=>rfl
   |some t=>
    dsimp only[bind_some,map_some];rw[kl rfl];split
    .rfl
    .rfl
theorem Cm{h:Fr}{n:B}{as:List (B×B)}{c:Fr×List Shape}(e:child h n as=some c):c.1.name=n:=by
 unfold child at e;split at e
 .cases e
 .split at e
  .split at e
   .cases e
   .cases hs:styled h.cR as true with
    |none=>rw[hs]at e;cases e
    |some t=>rw[hs]at e;cases e;rfl
  .cases hk:kindOf n as with
   |none=>rw[hk]at e;cases e
   |some q=>
    rw[hk]at e;dsimp only[bind_some]at e;cases hs:styled h.cR as true with
    |none=>rw[hs]at e;cases e
    |some t=>rw[hs]at e;cases e;rfl
theorem z0{h:Fr}(e:h.shape=true)(n:B)(as:List (B×B)):child h n as=none:=by
 unfold child;rw[if_pos e]
inductive Met where
 |cq (q:B)
 |tag (t:Tag)
def met(b:B):Option Met:=match b with
 |60::47::q=>some (.cq q)
 |60::q=>(cT q).map .tag
 |_=>none
def qz:Nat->List Fr->B->Option (List Shape×B)
 |_,[],b=>some ([],b)
 |0,_::_,_=>none
 |f+1,h::hs,b=>(bM b).bind fun r=>(met r).bind fun m=>match m with
  |.cq q=>(bE h.name q).bind fun q'=>qz f hs q'
  |.tag t=>(child h t.name t.attrs).bind fun c=>(qz f (if t.cq=true then h::hs else c.1::h::hs) t.rest).map fun y=>(c.2++y.1,y.2)
def Met.rest:Met->B
 |.cq q=>q
 |.tag t=>t.rest
theorem Dq{b:B}{m:Met}(h:met b=some m):m.rest.length<b.length:=by
 unfold met at h;split at h
 .cases h;simp only[length_cons,Met.rest];lia
 .rename_i q _;cases ht:cT q with
  |none=>rw[ht]at h;cases h
  |some t=>
   rw[ht]at h;cases h;have:=eM ht;simp only[length_cons,Met.rest]
   lia
 .cases h
theorem kK:∀(f g:Nat)(hs:List Fr)(b:B),b.length<f->b.length<g->qz f hs b=qz g hs b
 |f,g,[],b,_,_=>by rw[qz,qz]
 |0,_,_::_,b,h,_=>by lia
 |_,0,_::_,b,_,h=>by lia
 |f+1,g+1,h::hs,b,hf,hg=>by
  rw[qz,qz];cases hm:bM b with
  |none=>rfl
  |some r=>
   have h1:=d6 hm;dsimp only[bind_some];cases hx:met r with
   |none=>rfl
   |some m=>
    have h2:=Dq hx;dsimp only[bind_some];cases m with
    |cq q=>
     dsimp only[Met.rest]at h2 ⊢;cases hc:bE h.name q with
     |none=>rfl
     |some q'=>
      have h3:=fV hc;exact kK f g hs q' (by lia) (by lia)
    |tag t=>
     dsimp only[Met.rest]at h2 ⊢;cases child h t.name t.attrs with
     |none=>rfl
     |some c=>
      dsimp only[bind_some];rw[kK f g _ t.rest (by lia) (by lia)]
def run(hs:List Fr)(b:B):Option (List Shape×B):=qz (b.length+1) hs b
theorem C6(b:B):run [] b=some ([],b):=by unfold run;rw[qz]
theorem xU(h:Fr)(hs:List Fr)(b:B):run (h::hs) b=(bM b).bind fun r=>(met r).bind fun m=>match m with
  |.cq q=>(bE h.name q).bind fun q'=>run hs q'
  |.tag t=>(child h t.name t.attrs).bind fun c=>(run (if t.cq=true then h::hs else c.1::h::hs) t.rest).map fun y=>(c.2++y.1,y.2):=by
 unfold run;rw[qz];cases hm:bM b with
 |none=>rfl
 |some r=>
  have h1:=d6 hm;dsimp only[bind_some];cases hx:met r with
  |none=>rfl
  |some m=>
   have h2:=Dq hx;dsimp only[bind_some];cases m with
   |cq q=>
    dsimp only[Met.rest]at h2 ⊢;cases hc:bE h.name q with
    |none=>rfl
    |some q'=>
     have h3:=fV hc;exact kK _ _ hs q' (by lia) (by lia)
   |tag t=>
    dsimp only[Met.rest]at h2 ⊢;cases child h t.name t.attrs with
    |none=>rfl
    |some c=>
     dsimp only[bind_some];rw[kK b.length (t.rest.length+1) _ t.rest (by lia) (by lia)]
theorem Ir(q:B):met (60::47::q)=some (.cq q):=rfl
theorem Dp{q:B}(h:∀v,q≠47::v):met (60::q)=(cT q).map .tag:=by
 unfold met;split
 .rename_i v e;cases e;exact absurd rfl (h v)
 .rename_i e;cases e;rfl
 .rename_i e;exact absurd rfl (e q)
theorem Iu{r:B}(h:∀q,r≠60::q):met r=none:=by
 unfold met;split
 .exact absurd rfl (h _)
 .exact absurd rfl (h _)
 .rfl
theorem RH:∀(n:Nat)(b:B),b.length<=n->∀(h:Fr)(hs:List Fr),run (h::hs) b=(kids b).bind fun k=>(dU h k.1).bind fun l=>(bE h.name k.2).bind fun q=>(run hs q).map fun y=>(l++y.1,y.2):=by
 intro n;induction n with
 |zero=>
  intro b hb h hs;have e:b=[]:=length_eq_zero_iff.mp (by lia);subst e;rfl
 |succ n ih=>
  intro b hb h hs;rw[xU];by_cases hm:∃q,bM b=some (60::q)
  .obtain⟨q,hm⟩:=hm;have h1:=d6 hm;simp only[length_cons]at h1;rw[hm];dsimp only[bind_some];by_cases hq:∃v,q=47::v
   .obtain⟨v,rfl⟩:=hq;rw[Ir,IK hm];dsimp only[bind_some];rw[mZ];dsimp only[bind_some];cases bE h.name v with
    |none=>rfl
    |some q'=>
     dsimp only[bind_some];cases run hs q' with
     |none=>rfl
     |some y=>rfl
   .have hq:∀v,q≠47::v:=fun v z=>hq ⟨v,z⟩
    rw[Dp hq,E3 hm hq,Pw];cases ht:cT q with
    |none=>rfl
    |some t=>
     have h2:=eM ht;dsimp only[bind_some,map_some];by_cases hsh:h.shape=true
     .rw[z0 hsh];dsimp only[bind_none];have hz:∀(x:El)(o:Option (List El×B)),((o.map fun y=>(x::y.1,y.2)).bind fun k=>(dU h k.1).bind fun l=>(bE h.name k.2).bind fun q=>(run hs q).map fun y=>(l++y.1,y.2))=none:=fun x o=>by
       cases o with
       |none=>rfl
       |some y=>
        dsimp only[map_some,bind_some];rw[kl hsh];rfl
      split
      .dsimp only[bind_some];rw[hz]
      .cases kids t.rest with
       |none=>rfl
       |some k=>
        dsimp only[bind_some];cases bE t.name k.2 with
        |none=>rfl
        |some u=>
         dsimp only[map_some,bind_some];rw[hz]
     .have hsh:h.shape=false:=by simpa using hsh
      by_cases hst:t.cq=true
      .rw[if_pos hst];have e0:∀c:Fr×List Shape,(if t.cq=true then h::hs else c.1::h::hs)=h::hs:=fun c=>if_pos hst
       simp only[e0];rw[ih t.rest (by lia) h hs];dsimp only[bind_some];cases hc:child h t.name t.attrs with
       |none=>
        dsimp only[bind_none];cases kids t.rest with
        |none=>rfl
        |some k=>
         dsimp only[map_some,bind_some];rw[bK hsh,dX,eX hsh,hc];rfl
       |some c=>
        dsimp only[bind_some];cases kids t.rest with
        |none=>rfl
        |some k=>
         dsimp only[map_some,bind_some];rw[bK hsh,bK hsh,dX,eX hsh,hc];dsimp only[bind_some];rw[mZ];dsimp only[map_some,bind_some];cases allShapes h.k h.cR k.1 with
         |none=>rfl
         |some l=>
          dsimp only[map_some,bind_some];cases bE h.name k.2 with
          |none=>rfl
          |some u=>
           dsimp only[bind_some];cases run hs u with
           |none=>rfl
           |some y=>
            dsimp only[map_some];rw[append_nil,append_assoc]
      .rw[if_neg hst];have e0:∀c:Fr×List Shape,(if t.cq=true then h::hs else c.1::h::hs)=c.1::h::hs:=fun c=>if_neg hst
       simp only[e0];cases hc:child h t.name t.attrs with
       |none=>
        dsimp only[bind_none];cases kids t.rest with
        |none=>rfl
        |some k=>
         dsimp only[bind_some];cases bE t.name k.2 with
         |none=>rfl
         |some u=>
          dsimp only[map_some,bind_some];cases kids u with
          |none=>rfl
          |some k2=>
           dsimp only[map_some,bind_some];rw[bK hsh,dX,eX hsh,hc];rfl
       |some c=>
        dsimp only[bind_some];rw[ih t.rest (by lia) c.1 (h::hs),Cm hc];cases hk:kids t.rest with
        |none=>rfl
        |some k=>
         have h3:=hG hk;dsimp only[bind_some];cases hcl:bE t.name k.2 with
         |none=>
          dsimp only[bind_none,Option.map_none];cases dU c.1 k.1 with
          |none=>rfl
          |some l=>rfl
         |some u=>
          have h4:=fV hcl;dsimp only[bind_some,map_some];rw[ih u (by lia) h hs];cases hev:dU c.1 k.1 with
          |none=>
           dsimp only[bind_none,Option.map_none];cases kids u with
           |none=>rfl
           |some k2=>
            dsimp only[map_some,bind_some];rw[bK hsh,dX,eX hsh,hc];dsimp only[bind_some];rw[hev];rfl
          |some l=>
           dsimp only[bind_some];cases kids u with
           |none=>rfl
           |some k2=>
            dsimp only[map_some,bind_some];rw[bK hsh,bK hsh,dX,eX hsh,hc];dsimp only[bind_some];rw[hev];dsimp only[map_some,bind_some];cases allShapes h.k h.cR k2.1 with
            |none=>rfl
            |some l2=>
             dsimp only[map_some,bind_some];cases bE h.name k2.2 with
             |none=>rfl
             |some v=>
              dsimp only[bind_some];cases run hs v with
              |none=>rfl
              |some y=>
               dsimp only[map_some];rw[append_assoc,append_assoc]
  .have hm':∀q,bM b≠some (60::q):=fun q z=>hm ⟨q,z⟩
   rw[MI hm'];cases hx:bM b with
   |none=>rfl
   |some r=>
    dsimp only[bind_some];rw[Iu fun q z=>hm' q (by rw[hx,z])];rfl
def top(t:Tag):Option (Nat×Nat×Style):=if t.name≠ascii "svg" then none else(side t.attrs "width").bind fun w=>(side t.attrs "height").bind fun h=>(styled ⟨some 0,false,Mat.one⟩ t.attrs false).map fun s=>(w,h,s)
def inside(t:Tag)(s:Style):Option (List Shape×B):=if t.cq=true then some ([],t.rest)else run [⟨t.name,false,17,s⟩] t.rest
def i5(t:Tag):Option Picture:=(top t).bind fun x=>(inside t x.2.2).bind fun y=>(bM y.2).bind fun z=>if z=[]then some ⟨x.1,x.2.1,y.1⟩else none
def mC(r:B):Option Picture:=match r with
 |60::q=>(cT q).bind i5
 |_=>none
theorem vX(q:B):mC (60::q)=(cT q).bind i5:=rfl
theorem qL{r:B}(h:∀q,r≠60::q):mC r=none:=by
 unfold mC;split
 .exact absurd rfl (h _)
 .rfl
def pic(b:B):Option Picture:=(bM b).bind mC
theorem qK(b:B):picture b=pic b:=by
 unfold picture root pic;rw[wq (lt_succ_self _)];cases hm:bM b with
 |none=>rfl
 |some r=>
  have h1:=d6 hm;dsimp only[bind_some];split
  .rename_i q;simp only[length_cons]at h1;rw[rY (by lia),Pw,vX];cases ht:cT q with
   |none=>rfl
   |some t=>
    have h2:=eM ht;dsimp only[bind_some];unfold i5 inside;have fin:∀(ks:List El)(u:B),u.length<=b.length->((misc (b.length+1) u).bind fun z=>if z=[]then some (El.mk t.name t.attrs ks)else none)=((bM u).bind fun z=>if z=[]then some (El.mk t.name t.attrs ks)else none):=fun ks u hu=>by
     rw[wq (by lia)]
    by_cases hst:t.cq=true
    .simp only[if_pos hst];dsimp only[bind_some];rw[fin [] t.rest (by lia)];unfold top;cases bM t.rest with
     |none=>
      dsimp only[bind_none];split
      .rfl
      .cases side t.attrs "width" with
       |none=>rfl
       |some w=>
        dsimp only[bind_some];cases side t.attrs "height" with
        |none=>rfl
        |some h=>
         dsimp only[bind_some];cases styled ⟨some 0,false,Mat.one⟩ t.attrs false with
         |none=>rfl
         |some s=>rfl
     |some z=>
      dsimp only[bind_some];by_cases hz:z=[]
      .simp only[if_pos hz];dsimp only[bind_some];split
       .rfl
       .cases side t.attrs "width" with
        |none=>rfl
        |some w=>
         dsimp only[bind_some];cases side t.attrs "height" with
         |none=>rfl
         |some h=>
          dsimp only[bind_some];cases styled ⟨some 0,false,Mat.one⟩ t.attrs false with
          |none=>rfl
          |some s=>
           dsimp only[bind_some,map_some];rw[lB];rfl
      .simp only[if_neg hz];dsimp only[bind_none];split
       .rfl
       .cases side t.attrs "width" with
        |none=>rfl
        |some w=>
         dsimp only[bind_some];cases side t.attrs "height" with
         |none=>rfl
         |some h=>
          dsimp only[bind_some];cases styled ⟨some 0,false,Mat.one⟩ t.attrs false with
          |none=>rfl
          |some s=>rfl
    .simp only[if_neg hst];have er:∀s:Style,run [⟨t.name,false,17,s⟩] t.rest=(kids t.rest).bind fun k=>(allShapes 17 s k.1).bind fun l=>(bE t.name k.2).map fun q=>(l,q):=fun s=>by
      rw[RH _ _ (le_refl _)];cases kids t.rest with
      |none=>rfl
      |some k=>
       dsimp only[bind_some];rw[bK rfl];dsimp only;cases allShapes 17 s k.1 with
       |none=>rfl
       |some l=>
        dsimp only[bind_some];cases bE t.name k.2 with
        |none=>rfl
        |some u=>
         dsimp only[bind_some,map_some];rw[C6];dsimp only[map_some];rw[append_nil]
     simp only[er];unfold top;cases hk:kids t.rest with
     |none=>
      dsimp only[bind_none];split
      .rfl
      .cases side t.attrs "width" with
       |none=>rfl
       |some w=>
        dsimp only[bind_some];cases side t.attrs "height" with
        |none=>rfl
        |some h=>
         dsimp only[bind_some];cases styled ⟨some 0,false,Mat.one⟩ t.attrs false with
         |none=>rfl
         |some s=>rfl
     |some k=>
      have h3:=hG hk;dsimp only[bind_some];cases hcl:bE t.name k.2 with
      |none=>
       dsimp only[bind_none,Option.map_none];split
       .rfl
       .cases side t.attrs "width" with
        |none=>rfl
        |some w=>
         dsimp only[bind_some];cases side t.attrs "height" with
         |none=>rfl
         |some h=>
          dsimp only[bind_some];cases styled ⟨some 0,false,Mat.one⟩ t.attrs false with
          |none=>rfl
          |some s=>
           dsimp only[bind_some,map_some];cases allShapes 17 s k.1 with
           |none=>rfl
           |some l=>rfl
      |some u=>
       have h4:=fV hcl;dsimp only[bind_some,map_some];rw[fin k.1 u (by lia)];cases hmu:bM u with
       |none=>
        dsimp only[bind_none];split
        .rfl
        .cases side t.attrs "width" with
         |none=>rfl
         |some w=>
          dsimp only[bind_some];cases side t.attrs "height" with
          |none=>rfl
          |some h=>
           dsimp only[bind_some];cases styled ⟨some 0,false,Mat.one⟩ t.attrs false with
           |none=>rfl
           |some s=>
            dsimp only[bind_some,map_some];cases allShapes 17 s k.1 with
            |none=>rfl
            |some l=>
             dsimp only[bind_some,map_some];rw[hmu];rfl
       |some z=>
        dsimp only[bind_some];by_cases hz:z=[]
        .simp only[if_pos hz];dsimp only[bind_some];split
         .rfl
         .cases side t.attrs "width" with
          |none=>rfl
          |some w=>
           dsimp only[bind_some];cases side t.attrs "height" with
           |none=>rfl
           |some h=>
            dsimp only[bind_some];cases styled ⟨some 0,false,Mat.one⟩ t.attrs false with
            |none=>rfl
            |some s=>
             dsimp only[bind_some,map_some];cases allShapes 17 s k.1 with
             |none=>rfl
             |some l=>
              dsimp only[bind_some,map_some];rw[hmu];dsimp only[bind_some];rw[if_pos hz]
        .simp only[if_neg hz];dsimp only[bind_none];split
         .rfl
         .cases side t.attrs "width" with
          |none=>rfl
          |some w=>
           dsimp only[bind_some];cases side t.attrs "height" with
           |none=>rfl
           |some h=>
            dsimp only[bind_some];cases styled ⟨some 0,false,Mat.one⟩ t.attrs false with
            |none=>rfl
            |some s=>
             dsimp only[bind_some,map_some];cases allShapes 17 s k.1 with
             |none=>rfl
             |some l=>
              dsimp only[bind_some,map_some];rw[hmu];dsimp only[bind_some];rw[if_neg hz]
  .rename_i h2;rw[qL h2];rfl
def tr(c:Nat):Nat:=if blank c=true then 32 else if 33<=c/\c<=126 then(if c=37 then 63 else c)else 10
def Byt(b:B):Prop:=∀c∈b,c<256
theorem Byt.drop{b:B}(h:Byt b)(n:Nat):Byt (b.drop n):=fun c hc=>h c (List.mem_of_mem_drop hc)
theorem Byt.take{b:B}(h:Byt b)(n:Nat):Byt (b.take n):=fun c hc=>h c (List.mem_of_mem_take hc)
theorem uE{c:Nat}:blank c=true↔c=32\/c=9\/c=10\/c=13:=by
 unfold blank;simp only[Bool.or_eq_true,beq_iff_eq]
theorem lJ{c d:Nat}(h1:33<=d)(h2:d<=126)(h3:d≠37)(h4:d≠63):tr c=d↔c=d:=by
 unfold tr;by_cases hb:blank c=true
 .rw[if_pos hb];rw[uE]at hb;omega
 .rw[if_neg hb];split
  .split<;>omega
  .constructor<;>intro h
   .omega
   .subst h;omega
theorem pU{c:Nat}:tr c=32↔blank c=true:=by
 unfold tr;by_cases hb:blank c=true
 .rw[if_pos hb];exact⟨fun _=>hb,fun _=>rfl⟩
 .rw[if_neg hb];refine⟨fun h=>?_,fun h=>absurd h hb⟩;split at h
  .split at h
   .omega
   .subst h;exact absurd (show blank 32=true from rfl) hb
  .omega
def isIn(Z:List Nat)(c:Nat):Bool:=decide (c∈Z)
theorem IP:∀c:Nat,isIn [32] (tr c)=blank c:=fun c=>by
 unfold isIn;by_cases h:blank c=true
 .rw[pU.mpr h,h];rfl
 .have e:blank c=false:=by simpa using h
  rw[e];have:tr c≠32:=fun z=>h (pU.mp z)
  simp[this]
def IF:List Nat:=ascii "ABCDEFGHIJKLMNOPQRSTUVWXYZabcdefghijklmnopqrstuvwxyz"
def VB:List Nat:=ascii "ABCDEFGHIJKLMNOPQRSTUVWXYZabcdefghijklmnopqrstuvwxyz0123456789-:"
def M6:List Nat:=ascii "0123456789"
def Mp:List Nat:=ascii "+-0123456789"
def LU:List Nat:=ascii "abcdefghijklmnopqrstuvwxyz"
def Vo:List Nat:=ascii "MLHVQCZmlhvqcz"
theorem Fd:∀c<256,isIn IF (tr c)=letter c:=by decide +kernel
theorem ML:∀c<256,isIn VB (tr c)=inName c:=by decide +kernel
theorem IM:∀c<256,isIn M6 (tr c)=digit c:=by decide +kernel
theorem Fc:∀c<256,isIn Mp (tr c)=(digit c||(c==45||c==43)):=by decide +kernel
theorem IL:∀c<256,isIn LU (tr c)=(decide (97<=c)&&decide (c<=122)):=by decide +kernel
theorem MK:∀c<256,isIn Vo (tr c)=(letter c&&(decide (aC c=90)||decide (arity (aC c)≠0))):=by decide +kernel
theorem CC:∀c<256,inName c=true->tr c=c:=by decide +kernel
theorem F7:∀c<256,(tr c≠60/\tr c≠38/\tr c≠10)↔(blank c||(decide (33<=c)&&(decide (c<=126)&&(c != 60&&c != 38))))=true:=by decide +kernel
theorem yz:∀{l:B},Byt l->(∀c∈l,inName c=true)->l.map tr=l
 |[],_,_=>rfl
 |c::r,hb,h=>by
  rw[map_cons,CC c (hb c (mem_cons_self ..)) (h c (mem_cons_self ..)),yz (fun d hd=>hb d (mem_cons_of_mem _ hd)) fun d hd=>h d (mem_cons_of_mem _ hd)]
theorem bF{P:Nat->Bool}:∀{l:B}{c:Nat},c∈l.takeWhile P->P c=true
 |[],_,h=>by simp at h
 |a::r,c,h=>by
  rw[takeWhile_cons]at h;split at h
  .rename_i ha;rcases mem_cons.mp h with rfl|h
   .exact ha
   .exact bF h
  .simp at h
def Plain(w:List Nat):Prop:=∀d∈w,33<=d/\d<=126/\d≠37/\d≠63
theorem Cy:∀{w:List Nat}{l:B},Plain w->((l.map tr).take w.length=w↔l.take w.length=w)
 |[],l,_=>by simp
 |d::w,[],_=>by simp
 |d::w,c::r,hp=>by
  have hd:=hp d (mem_cons_self ..);have ih:=Cy (w:=w) (l:=r) fun x hx=>hp x (mem_cons_of_mem _ hx)
  rw[map_cons,length_cons,List.take_succ_cons,List.take_succ_cons,List.cons.injEq,List.cons.injEq,lJ hd.1 hd.2.1 hd.2.2.1 hd.2.2.2,ih]
theorem eL{w l:List Nat}:l.take w.length=w↔∃q,l=w++q:=
 ⟨fun h=>⟨l.drop w.length,by have e:=List.take_append_drop w.length l;rw[h]at e;exact e.symm⟩,fun⟨q,h⟩=>by rw[h];simp⟩
theorem mK:∀{r:B},(∀j,(r.drop j).take 3≠[45,45,62])->noteEnd r=none
 |[],_=>rfl
 |c::r,h=>by
  rw[noteEnd]
  .exact mK fun j=>by have:=h (j+1);simpa using this
  .intro r' hr hc;have:=h 0;rw[hr,hc]at this;exact this rfl
theorem mJ:∀{r:B}{k:Nat},(r.drop k).take 3=[45,45,62]->(∀j<k,(r.drop j).take 3≠[45,45,62])->noteEnd r=some (r.drop (k+3))
 |[],k,h,_=>by simp at h
 |c::r,0,h,_=>by
  have h:(c::r).take 3=[45,45,62]:=h;obtain⟨q,e⟩:=(eL (w:=[45,45,62])).mp h;rw[e];rfl
 |c::r,k+1,h,hn=>by
  rw[noteEnd]
  .have:=mJ (r:=r) (k:=k) (by simpa using h) fun j hj=>by
    have:=hn (j+1) (by omega);simpa using this
   rw[this];simp
  .intro r' hr hc;have:=hn 0 (by omega);rw[hr,hc]at this;exact this rfl
theorem hU{q c:Nat}(hc:c<256):valueByte q c=true↔(tr c≠60/\tr c≠38/\tr c≠10)/\(blank c=true\/c≠q):=by
 rw[F7 c hc];unfold valueByte;cases blank c with
 |true=>simp
 |false=>
  simp only[Bool.false_or,Bool.and_eq_true,decide_eq_true_eq,bne_iff_ne,ne_eq,false_or];constructor
  .rintro⟨a,b,c1,c2,c3⟩;exact⟨⟨a,b,c1,c2⟩,by simpa using c3⟩
  .rintro⟨⟨a,b,c1,c2⟩,c3⟩;exact⟨a,b,c1,c2,by simpa using c3⟩
theorem u7{P:Nat->Bool}:∀{l:B}{k:Nat},(∀c∈l.take k,P c=true)->(∀c,l[k]?=some c->P c=false)->k<=l.length->l.takeWhile P=l.take k
 |[],k,_,_,_=>by simp
 |c::r,0,_,h,_=>by
  rw[takeWhile_cons,h c rfl];rfl
 |c::r,k+1,h,h2,hk=>by
  have hc:P c=true:=h c (by simp);rw[takeWhile_cons,if_pos hc,u7 (l:=r) (k:=k) (fun d hd=>h d (by simp[hd])) (fun d hd=>h2 d (by simpa using hd)) (by simpa using hk),List.take_succ_cons]
theorem uY{q:Nat}{v:B}{k:Nat}(hb:Byt v)(hq:q=34\/q=39)(hk:v[k]?=some q)(hn:∀j<k,v[j]?≠some q)(ok:∀c∈v.take k,tr c≠60/\tr c≠38/\tr c≠10):
  valueAt (61::q::v)=some (v.take k,v.drop (k+1)):=by
 have hkl:k<v.length:=(List.getElem?_eq_some_iff.mp hk).1;have e:v.takeWhile (valueByte q)=v.take k:=by
  refine u7 (fun c hc=>?_) (fun c hc=>?_) (by omega)
  .refine(hU (hb.take k c hc)).mpr ⟨ok c hc,Or.inr fun z=>?_⟩;subst z;obtain⟨j,hj⟩:=mem_iff_getElem?.mp hc;have hjk:j<k:=by
    have:=(List.getElem?_eq_some_iff.mp hj).1;rw[length_take]at this;omega
   rw[List.getElem?_take_of_lt hjk]at hj;exact hn j hjk hj
  .rw[hk]at hc;cases hc;cases hv:valueByte q q with
   |false=>rfl
   |true=>
    rcases((hU (by omega)).mp hv).2 with z|z
    .rw[uE]at z;omega
    .exact absurd rfl z
 have el:(v.take k).length=k:=by rw[length_take];omega
 rw[eV,if_pos hq,e,el,if_pos];rw[List.head?_drop];exact hk
theorem xo{q:Nat}{v:B}{k:Nat}(hb:Byt v)(hq:q=34\/q=39)(hk:v[k]?=some q)(hn:∀j<k,v[j]?≠some q)(bad:∃c∈v.take k,¬(tr c≠60/\tr c≠38/\tr c≠10)):
  valueAt (61::q::v)=none:=by
 rw[eV,if_pos hq,if_neg];intro h;rw[List.head?_drop]at h;have hm:∀c∈v.takeWhile (valueByte q),valueByte q c=true:=fun c hc=>bF hc
 obtain⟨c,hc,Up⟩:=bad;obtain⟨j,hj⟩:=mem_iff_getElem?.mp hc;have hjk:j<k:=by
  have:=(List.getElem?_eq_some_iff.mp hj).1;rw[length_take]at this;omega
 rw[List.getElem?_take_of_lt hjk]at hj;have hl:k<=(v.takeWhile (valueByte q)).length:=by
  by_cases z:(v.takeWhile (valueByte q)).length<k
  .exact absurd h (hn _ z)
  .omega
 have hp:v.takeWhile (valueByte q)=v.take (v.takeWhile (valueByte q)).length:=by
  have e:=takeWhile_append_dropWhile (p:=valueByte q) (l:=v);have e2:=congrArg (List.take (v.takeWhile (valueByte q)).length) e;rw[List.take_left']at e2
  .exact e2
  .rfl
 have hin:c∈v.takeWhile (valueByte q):=by
  rw[hp];exact mem_of_getElem? (by rw[List.getElem?_take_of_lt (show j<(v.takeWhile (valueByte q)).length by omega)];exact hj)
 exact Up ((hU (hb c (List.mem_of_mem_take hc))).mp (hm c hin)).1
theorem uZ{q:Nat}{v:B}(hq:q=34\/q=39)(hn:∀j:Nat,v[j]?≠some q):valueAt (61::q::v)=none:=by
 rw[eV,if_pos hq,if_neg];intro h;rw[List.head?_drop]at h;exact hn _ h
theorem xb{n b:B}(hn:∃c r,n=c::r/\letter c=true)(ha:∀c∈n,inName c=true):bE n b=if b.take (n.length+1)=n++[62]then some (b.drop (n.length+1))else none:=by
 obtain⟨c,r,e,hc⟩:=hn;have h62:inName 62=false:=rfl;by_cases h:b.take (n.length+1)=n++[62]
 .rw[if_pos h];have hl:(n++[62]).length=n.length+1:=by simp
  rw[<-hl]at h;obtain⟨q,hq⟩:=eL.mp h;have tw:b.takeWhile inName=n:=by
   have:b.takeWhile inName=b.take n.length:=u7 (k:=n.length) (fun d hd=>ha d (by rw[hq]at hd;simpa using hd)) (fun d hd=>by rw[hq]at hd;simp at hd;subst hd;exact h62) (by rw[hq];simp);rw[this,hq];simp
  have na:nameAt b=some (n,62::q):=by
   unfold nameAt;rw[hq,e];dsimp only[cons_append];rw[if_pos hc];have e2:b=c::(r++[62]++q):=by rw[hq,e];rfl
   rw[show(c::(r++[62]++q))=b from e2.symm,tw];rw[hq];simp[e]
  unfold bE;rw[na];dsimp only[bind_some];rw[ij,if_pos rfl,hq];simp
 .rw[if_neg h];unfold bE;cases hx:nameAt b with
  |none=>rfl
  |some m=>
   obtain⟨m,q⟩:=m;dsimp only[bind_some];have hb:=(dQ hx).2.2;by_cases hq:∃u,q=62::u
   .obtain⟨u,rfl⟩:=hq;rw[ij,if_neg];intro z;subst z
    apply h
    rw[hb,List.take_append,take_of_length_le (by omega)];rw[show m.length+1-m.length=1 by omega];rfl
   .rw[pb fun u z=>hq ⟨u,z⟩]
theorem gM{P:Nat->Bool}:∀{l r:B}{c:Nat},l.dropWhile P=c::r->P c=false
 |[],_,_,h=>by cases h
 |a::l,r,c,h=>by
  rw[dropWhile_cons]at h;split at h
  .exact gM h
  .rename_i ha;cases h;simpa using ha
theorem lq{b r:B}{z:Int}(h:numberAt b=some (z,r)):r=(unsigned b).dropWhile digit:=by
 rw[cI]at h;split at h
 .cases h
 .have h2:=congrArg Prod.snd (Option.some.inj h);dsimp only at h2;rw[<-h2,cA]
theorem tH{b q t:B}{z:Int}(h:numberAt b=some (z,q))(e:skip q=44::t):bf b=(bf (skip t)).map fun y=>(z::y.1,y.2):=by
 rw[cP,h];dsimp only[bind_some];rw[if_pos (Or.inr (by rw[e];rfl))];unfold between;dsimp only;rw[e];rfl
theorem pd{b:B}(h:beginsNumber b=true):∃c r,b=c::r/\(digit c=true\/c=45\/c=43):=by
 unfold beginsNumber at h;split at h
 .rename_i c r;simp only[Bool.or_eq_true,beq_iff_eq]at h;exact⟨c,r,rfl,h⟩
 .cases h
theorem fN{c:Nat}:digit c=true↔48<=c/\c<=57:=by
 unfold digit;simp only[Bool.and_eq_true,decide_eq_true_eq]
theorem v7{b q:B}{z:Int}(h:numberAt b=some (z,q))(e:beginsNumber (skip q)=true):bf b=(bf (skip q)).map fun y=>(z::y.1,y.2):=by
 rw[cP,h];dsimp only[bind_some];rw[if_pos (Or.inl e)];obtain⟨c,r,hc,hd⟩:=pd e;have h44:c≠44:=by
  rcases hd with hd|hd
  .rw[fN]at hd;lia
  .lia
 have hbt:between q=some (skip q):=by
  unfold between;dsimp only;split
  .rename_i t ht;rw[hc]at ht;cases ht;exact absurd rfl h44
  .rw[if_pos];rcases hd with hd|hd
   .left
    have hl:=aW q;by_cases hlt:(skip q).length<q.length
    .exact hlt
    .exfalso
     have hq:skip q=q:=by
      have e1:=takeWhile_append_dropWhile (p:=blank) (l:=q);have e2:=congrArg List.length e1;rw[length_append]at e2;have e3:(q.dropWhile blank).length=(skip q).length:=rfl;have e4:q.takeWhile blank=[]:=length_eq_zero_iff.mp (by lia);rw[e4]at e1;exact e1
     have hx:=lq h;rw[hq]at hc;rw[hx]at hc;have:=gM hc;rw[hd]at this;cases this
   .right
    rw[hc];rcases hd with hd|hd
    .left;rw[hd];rfl
    .right;rw[hd];rfl
 rw[hbt];rfl
theorem v8{b q:B}{z:Int}(h:numberAt b=some (z,q))(e:beginsNumber (skip q)=false)(e2:∀t,skip q≠44::t):bf b=some ([z],skip q):=by
 rw[cP,h];dsimp only[bind_some];rw[if_neg];rintro(z|z)
 .rw[e]at z;cases z
 .cases hq:skip q with
  |nil=>rw[hq]at z;cases z
  |cons c t=>
   rw[hq]at z;cases z;exact e2 t hq
theorem j4{b:B}(h:numberAt b=none):bf b=none:=by rw[cP,h];rfl
def rowAt(b:B):Option (List Int×B):=if beginsNumber (skip b)=true then bf (skip b)else some ([],skip b)
theorem vN(b:B):row b=(rowAt b).bind fun x=>if x.2=[]then some x.1 else none:=by
 unfold row rowAt;dsimp only;have hs:=aW b;by_cases h:skip b=[]
 .rw[if_pos h,h];rfl
 .rw[if_neg h,jb (by lia)];by_cases hb:beginsNumber (skip b)=true
  .rw[if_pos hb]
  .rw[if_neg hb];dsimp only[bind_some];rw[if_neg h];have:numberAt (skip b)=none:=by
    cases hc:skip b with
    |nil=>exact absurd hc h
    |cons c r=>
     rw[hc]at hb;have hb:beginsNumber (c::r)=false:=by simpa using hb
     unfold beginsNumber at hb;simp only[Bool.or_eq_false_iff,beq_eq_false_iff_ne]at hb;rw[cI,if_pos]
     left
     have hu:unsigned (c::r)=c::r:=by
      unfold unsigned;rw[if_neg];simp only[List.head?_cons,Bool.or_eq_true,beq_iff_eq,Option.some.injEq,not_or];exact⟨hb.2.1,hb.2.2⟩
     rw[hu,takeWhile_cons,hb.1];rfl
   rw[j4 this];rfl
theorem Az{P:Nat->Bool}{d:Nat}(hd:P d=false)(t:B):∀w:B,(w++d::t).takeWhile P=w.takeWhile P
 |[]=>by rw[nil_append,takeWhile_cons,hd];rfl
 |c::r=>by
  rw[cons_append,takeWhile_cons,takeWhile_cons,Az hd t r]
theorem Jm{P:Nat->Bool}{d:Nat}(hd:P d=false)(t:B):∀w:B,(w++d::t).dropWhile P=w.dropWhile P++d::t
 |[]=>by rw[nil_append,dropWhile_cons,hd];rfl
 |c::r=>by
  rw[cons_append,dropWhile_cons,dropWhile_cons,Jm hd t r];split<;>rfl
theorem iy(w t:B):skip (w++41::t)=skip w++41::t:=Jm (by rfl) t w
theorem sG(w t:B):beginsNumber (w++41::t)=beginsNumber w:=by
 cases w with
 |nil=>rfl
 |cons c r=>rfl
theorem mU(w t:B)(d:Nat)(hd:d≠41):(w++41::t).head?=some d↔w.head?=some d:=by
 cases w with
 |nil=>simp;lia
 |cons c r=>simp
theorem u6(w t:B):unsigned (w++41::t)=unsigned w++41::t:=by
 cases w with
 |nil=>rfl
 |cons c r=>
  show(if (some c==some 45||some c==some 43)=true then(c::(r++41::t)).drop 1 else c::(r++41::t))=(if (some c==some 45||some c==some 43)=true then(c::r).drop 1 else c::r)++41::t;by_cases h:(some c==some 45||some c==some 43)=true
  .rw[if_pos h,if_pos h];rfl
  .rw[if_neg h,if_neg h];rfl
theorem wa(w t:B):numberAt (w++41::t)=(numberAt w).map fun x=>(x.1,x.2++41::t):=by
 rw[cI,cI,u6,Az (by rfl)];split
 .rfl
 .dsimp only[map_some];have hh:((w++41::t).head?=some 45)=(w.head?=some 45):=propext (mU w t 45 (by decide));simp only[hh];rw[List.drop_append_of_le_length (len_takeWhile _ _)]
theorem lz{b q:B}(h:skip b=44::q):between b=some (skip q):=by
 unfold between;dsimp only;rw[h];rfl
theorem sF{b:B}(h:∀q,skip b≠44::q):between b=if (skip b).length<b.length\/(skip b).head?=some 45\/(skip b).head?=some 43 then some (skip b)else none:=by
 unfold between;dsimp only;split
 .rename_i q e;exact absurd e (h q)
 .rfl
theorem Ac(w t:B):between (w++41::t)=(between w).map fun x=>x++41::t:=by
 by_cases h:∃q,skip w=44::q
 .obtain⟨q,h⟩:=h;rw[lz h,lz (q:=q++41::t) (by rw[iy,h];rfl),iy];rfl
 .have h:∀q,skip w≠44::q:=fun q z=>h ⟨q,z⟩
  have h2:∀q,skip (w++41::t)≠44::q:=fun q z=>by
   rw[iy]at z;cases hs:skip w with
   |nil=>rw[hs]at z;cases z
   |cons c r=>
    rw[hs]at z;injection z with z1 _
    exact h r (by rw[hs,z1])
  rw[sF h,sF h2,iy];have e1:((skip w++41::t).length<(w++41::t).length)=((skip w).length<w.length):=by
   simp only[length_append];exact propext (by lia)
  have e2:((skip w++41::t).head?=some 45)=((skip w).head?=some 45):=propext (mU _ t 45 (by decide));have e3:((skip w++41::t).head?=some 43)=((skip w).head?=some 43):=propext (mU _ t 43 (by decide));simp only[e1,e2,e3];split<;>rfl
theorem yl(t:B):∀(n:Nat)(w:B),w.length<=n->bf (w++41::t)=(bf w).map fun x=>(x.1,x.2++41::t):=by
 intro n;induction n with
 |zero=>
  intro w hw;have e:w=[]:=length_eq_zero_iff.mp (by lia);subst e;rfl
 |succ n ih=>
  intro w hw;rw[cP,cP,wa];cases hx:numberAt w with
  |none=>rfl
  |some x=>
   obtain⟨z,q⟩:=x;have hl:=di hx;dsimp only[map_some,bind_some];rw[iy,sG,Ac];have hh:((skip q++41::t).head?=some 44)=((skip q).head?=some 44):=propext (mU _ t 44 (by decide));simp only[hh];split
   .cases hb:between q with
    |none=>rfl
    |some r=>
     have h2:=eQ hb;dsimp only[map_some,bind_some];rw[ih r (by lia)];cases bf r with
     |none=>rfl
     |some y=>rfl
   .rfl
theorem En(w t:B):rowAt (w++41::t)=(rowAt w).map fun x=>(x.1,x.2++41::t):=by
 unfold rowAt;rw[iy,sG];split
 .exact yl t _ _ (le_refl _)
 .rfl
theorem ua{b r:B}{l:List Int}(h:rowAt b=some (l,r)):∀c∈r,c∈b:=by
 have hsk:∀x:B,∀c∈skip x,c∈x:=fun x c hc=>by
  have:=takeWhile_append_dropWhile (p:=blank) (l:=x);rw[<-this];exact mem_append_right _ hc
 have tQ:∀(n:Nat)(x:B),x.length<=n->∀l r,bf x=some (l,r)->∀c∈r,c∈x:=by
  intro n;induction n with
  |zero=>
   intro x hx l r h;have e:x=[]:=length_eq_zero_iff.mp (by lia);subst e;cases h
  |succ n ih=>
   intro x hx l r h c hc;rw[cP]at h;cases hn:numberAt x with
   |none=>rw[hn]at h;cases h
   |some y=>
    obtain⟨z,q⟩:=y;have hl:=di hn;have hq:∀c∈q,c∈x:=fun c hc=>by
     rw[lq hn]at hc;have h1:c∈unsigned x:=by
      have:=takeWhile_append_dropWhile (p:=digit) (l:=unsigned x);rw[<-this];exact mem_append_right _ hc
     unfold unsigned at h1;split at h1
     .exact List.mem_of_mem_drop h1
     .exact h1
    rw[hn]at h;dsimp only[bind_some]at h;split at h
    .cases hb:between q with
     |none=>rw[hb]at h;cases h
     |some v=>
      have hv:∀c∈v,c∈q:=fun c hc=>by
       unfold between at hb;dsimp only at hb;split at hb
       .rename_i u e;cases hb;have:=hsk u c hc;exact hsk q c (by rw[e];exact mem_cons_of_mem _ this)
       .split at hb
        .cases hb;exact hsk q c hc
        .cases hb
      have h2:=eQ hb;rw[hb]at h;dsimp only[bind_some]at h;cases hy:bf v with
      |none=>rw[hy]at h;cases h
      |some y=>
       obtain⟨l',r'⟩:=y;rw[hy]at h;cases h;exact hq c (hv c (ih v (by lia) l' r' hy c hc))
    .cases h;exact hq c (hsk q c hc)
 unfold rowAt at h;split at h
 .exact fun c hc=>hsk b c (tQ _ _ (le_refl _) _ _ h c hc)
 .cases h;exact hsk b
def small(c:Nat):Bool:=decide (97<=c)&&decide (c<=122)
def mi(n:B)(l:List Int)(r:B):Option (Mat×B):=match r with
 |41::u=>(turning n l).map fun t=>(t,u)
 |_=>none
def mh(n r:B):Option (Mat×B):=match r with
 |40::q=>(rowAt q).bind fun x=>mi n x.1 x.2
 |_=>none
theorem vc(n:B)(l:List Int)(u:B):mi n l (41::u)=(turning n l).map fun t=>(t,u):=rfl
theorem lH{n:B}{l:List Int}{r:B}(h:∀u,r≠41::u):mi n l r=none:=by
 unfold mi;split
 .exact absurd rfl (h _)
 .rfl
theorem k8(n q:B):mh n (40::q)=(rowAt q).bind fun x=>mi n x.1 x.2:=rfl
theorem oI{n r:B}(h:∀q,r≠40::q):mh n r=none:=by
 unfold mh;split
 .exact absurd rfl (h _)
 .rfl
theorem sW{n:B}{l:List Int}{t:Mat}(h:turning n l=some t):∀c∈n,small c=true:=by
 unfold turning at h;split at h
 .rename_i e;subst e;decide
 .split at h
  .rename_i e;subst e;decide
  .split at h
   .rename_i e;subst e;decide
   .split at h
    .rename_i e;subst e;decide
    .cases h
theorem mQ{c:Nat}(h:small c=true):letter c=true:=by
 unfold small at h;unfold letter;simp only[Bool.and_eq_true,decide_eq_true_eq]at h;simp only[Bool.or_eq_true,Bool.and_eq_true,decide_eq_true_eq]
 lia
theorem CA{P R:Nat->Bool}(hPR:∀c,P c=true->R c=true):∀{l:B},(∀c∈l.takeWhile R,P c=true)->l.takeWhile P=l.takeWhile R
 |[],_=>rfl
 |c::r,h=>by
  rw[takeWhile_cons]at h;rw[takeWhile_cons,takeWhile_cons];cases hR:R c with
  |true=>
   rw[hR]at h;have hc:P c=true:=h c (by simp);rw[hc,if_pos rfl,if_pos rfl,CA hPR fun d hd=>h d (by simp[hd])]
  |false=>
   have:P c=false:=by
    cases hP:P c with
    |false=>rfl
    |true=>rw[hPR c hP]at hR;cases hR
   rw[this];rfl
theorem Ay{P R:Nat->Bool}(hPR:∀c,P c=true->R c=true){l q:B}{d:Nat}(h:l.drop (l.takeWhile P).length=d::q)(hd:R d=false):l.takeWhile R=l.takeWhile P:=by
 have e:=takeWhile_append_dropWhile (p:=P) (l:=l);rw[cA]at h;rw[h]at e;have:(l.takeWhile P++d::q).takeWhile R=l.takeWhile P:=by
  rw[Az hd];have kW:∀c∈l.takeWhile P,R c=true:=fun c hc=>hPR c (bF hc)
  generalize l.takeWhile P=m at kW;induction m with
  |nil=>rfl
  |cons a m ih=>rw[takeWhile_cons,if_pos (kW a (by simp)),ih fun c hc=>kW c (by simp[hc])]
 rw[e]at this;exact this
theorem va(r:B):bB r=mh (r.takeWhile small) (r.drop (r.takeWhile small).length):=by
 by_cases h:∃q,r.drop (r.takeWhile small).length=40::q
 .obtain⟨q,h⟩:=h;have hw:=Ay (R:=letter) (fun c=>mQ) h (by rfl);rw[h,k8,jK (q:=q) (by rw[hw];exact h),hw];have e:=takeWhile_append_dropWhile (p:=fun c=>c != 41) (l:=q);by_cases hl:(q.takeWhile fun c=>c != 41).length=q.length
  .rw[if_pos hl];have hno:∀c∈q,c≠41:=fun c hc=>by
    have e2:q.dropWhile (fun c=>c != 41)=[]:=length_eq_zero_iff.mp (by have:=congrArg List.length e;rw[length_append]at this;lia);rw[e2,append_nil]at e;rw[<-e]at hc;have:=bF (P:=fun c=>c != 41) hc;simpa using this
   cases hx:rowAt q with
   |none=>rfl
   |some x=>
    obtain⟨l,v⟩:=x;dsimp only[bind_some];rw[lH fun u z=>hno 41 (ua hx 41 (by rw[z];exact mem_cons_self ..)) rfl]
  .rw[if_neg hl];obtain⟨c,u,hc⟩:∃c u,q.dropWhile (fun c=>c != 41)=c::u:=by
    cases hd:q.dropWhile (fun c=>c != 41)with
    |nil=>rw[hd,append_nil]at e;exact absurd (congrArg List.length e) hl
    |cons c u=>exact⟨c,u,rfl⟩
   have h41:c=41:=by
    have:=gM hc;simpa using this
   subst h41;generalize hwe:(q.takeWhile fun c=>c != 41)=w at *;have hq:q=w++41::u:=by rw[hc]at e;exact e.symm
   have hdr:q.drop (w.length+1)=u:=by
    rw[hq,List.drop_append];simp
   rw[hdr,hq,En,vN];cases hx:rowAt w with
   |none=>rfl
   |some x=>
    obtain⟨l,v⟩:=x;dsimp only[map_some,bind_some];by_cases hv:v=[]
    .rw[if_pos hv,hv];rfl
    .rw[if_neg hv];have hno:∀z,v++41::u≠41::z:=fun z hz=>by
      cases v with
      |nil=>exact hv rfl
      |cons d v'=>
       cases hz;have:(41:Nat)∈w:=ua hx 41 (mem_cons_self ..);rw[<-hwe]at this;have:=bF (P:=fun c=>c != 41) this;simp at this
     rw[lH hno];rfl
 .rw[oI fun q z=>h ⟨q,z⟩];cases hx:bB r with
  |none=>rfl
  |some x=>
   exfalso
   unfold bB at hx;split at hx
   .rename_i q e;split at hx
    .cases hx
    .cases hr:row (q.takeWhile fun c=>c != 41)with
     |none=>rw[hr]at hx;cases hx
     |some l=>
      rw[hr]at hx;dsimp only[bind_some]at hx;cases ht:turning (r.takeWhile letter) l with
      |none=>rw[ht]at hx;cases hx
      |some t=>
       have hs:=sW ht;have ew:=CA (P:=small) (R:=letter) (fun c=>mQ) hs;exact h ⟨q,by rw[ew];exact e⟩
   .cases hx
inductive dZ:Lines->Lines->Prop
 |nil:dZ [] []
 |keep {a b:Lines} (l:List P):dZ a b->dZ (l::a) (l::b)
 |out {a b:Lines} (p:P):p.1.natAbs<=268435456/\p.2.natAbs<=268435456->dZ a b->dZ ([p]::a) b
def pts(ls:Lines):Nat:=(ls.map List.length).sum
theorem mz(D:Lines)(e:List P):pts (D++[e])=pts D+e.length:=by
 unfold pts;rw[map_append,sum_append];simp
theorem De:∀{ls:Lines}{x:List P},x∈ls->x.length<=pts ls
 |l::r,x,h=>by
  have e:pts (l::r)=l.length+pts r:=by unfold pts;rw[map_cons,sum_cons]
  rw[e];rcases mem_cons.mp h with rfl|h
  .omega
  .have:=De h;omega
theorem dZ.refl:∀a:Lines,dZ a a
 |[]=>.nil
 |l::r=>.keep l (refl r)
theorem dZ.app{a b c d:Lines}(h:dZ a b)(k:dZ c d):dZ (a++c) (b++d):=by
 induction h with
 |nil=>exact k
 |keep l _ ih=>exact .keep l ih
 |out p hp _ ih=>exact .out p hp ih
def Pen.last(p:Pen):List P:=if p.line=[]then [whole p.x p.y]else p.line.reverse
structure Sim(ls:Lines)(st bg:Int×Int)(p:Pen):Prop where
 st:st=(p.x,p.y)
 bg:bg=(p.sx,p.sy)
 sh:p.line=[]->p.x=p.sx/\p.y=p.sy
 nr:near p.x=true/\near p.y=true
 nb:near p.sx=true/\near p.sy=true
 ls:(ls=[]/\p.line=[]/\p.done=[])\/∃D,dZ D p.done/\ls=D++[p.last]
theorem LV:Sim [] (0,0) (0,0) pen:=⟨rfl,rfl,fun _=>⟨rfl,rfl⟩,⟨by decide,by decide⟩,⟨by decide,by decide⟩,.inl ⟨rfl,rfl,rfl⟩⟩
def Pen.t6(p:Pen):Lines:=if p.line=[]then p.done else p.done++[p.line.reverse]
theorem Sim.cq{ls:Lines}{st bg:Int×Int}{p:Pen}(h:Sim ls st bg p):dZ ls p.t6:=by
 unfold Pen.t6;rcases h.ls with⟨rfl,e,d⟩|⟨D,hD,rfl⟩
 .rw[if_pos e,d];exact .nil
 .by_cases e:p.line=[]
  .rw[if_pos e];have:p.last=[whole p.x p.y]:=by unfold Pen.last;rw[if_pos e]
   rw[this,show p.done=p.done++[] by simp];refine hD.app (.out _ ?_ .nil);have h1:=h.nr.1;have h2:=h.nr.2;unfold near at h1 h2;rw[decide_eq_true_eq]at h1 h2;unfold whole UNIT;dsimp only;omega
  .rw[if_neg e];have:p.last=p.line.reverse:=by unfold Pen.last;rw[if_neg e]
   rw[this];exact hD.app (.keep _ .nil)
theorem Sim.finish{ls:Lines}{st bg:Int×Int}{p:Pen}(h:Sim ls st bg p):dZ ls p.finish:=h.cq
theorem Sim.start{ls:Lines}{st bg:Int×Int}{p:Pen}(h:Sim ls st bg p){x y:Int}(hx:near x=true)(hy:near y=true):Sim (ls++[[whole x y]]) (x,y) (x,y) (p.start x y):=by
 refine⟨rfl,rfl,fun _=>⟨rfl,rfl⟩,⟨hx,hy⟩,⟨hx,hy⟩,.inr ⟨ls,h.cq,?_⟩⟩;rfl
theorem Sim.z{ls:Lines}{st bg:Int×Int}{p:Pen}(h:Sim ls st bg p):Sim (ls++[[whole bg.1 bg.2]]) bg bg p.cq:=by
 obtain⟨b1,b2⟩:=bg;have hb:=h.bg;injection hb with h1 h2
 subst h1 h2;refine⟨rfl,rfl,fun _=>⟨rfl,rfl⟩,h.nb,h.nb,.inr ⟨ls,h.cq,?_⟩⟩;rfl
theorem Mg(p:Pen):p.on.line.reverse=p.last:=by
 unfold Pen.on Pen.last;by_cases e:p.line=[]
 .rw[if_pos e,if_pos e];rfl
 .rw[if_neg e,if_neg e]
theorem Mh(p:Pen):p.on.done=p.done:=by
 unfold Pen.on;split<;>rfl
theorem Xd{p:Pen}(h:p.line=[]->p.x=p.sx/\p.y=p.sy):p.on.sx=p.sx/\p.on.sy=p.sy:=by
 unfold Pen.on;by_cases e:p.line=[]
 .rw[if_pos e];exact h e
 .rw[if_neg e];exact⟨rfl,rfl⟩
theorem Sim.grow{ls D:Lines}{st bg:Int×Int}{p:Pen}(h:Sim ls st bg p)(hl:ls=D++[p.last])(hD:dZ D p.done){x y:Int}(hx:near x=true)(hy:near y=true)(ps:List P)(hne:ps≠[]):
  Sim (D++[p.last++ps]) (x,y) bg {p.on with x:=x,y:=y,line:=ps.reverse++p.on.line}:=by
 obtain⟨s1,s2⟩:=Xd h.sh;have Fi:ps.reverse++p.on.line≠[]:=by
  intro z;have:=congrArg List.length z;simp at this;exact hne this.1
 refine⟨rfl,?_,fun e=>absurd e Fi,⟨hx,hy⟩,?_,.inr ⟨D,by rw[Mh];exact hD,?_⟩⟩
 .show bg=(p.on.sx,p.on.sy);rw[s1,s2];exact h.bg
 .show near p.on.sx=true/\near p.on.sy=true;rw[s1,s2];exact h.nb
 .congr 1
  show [p.last++ps]=[if ps.reverse++p.on.line=[]then _ else(ps.reverse++p.on.line).reverse];rw[if_neg Fi,List.reverse_append,List.reverse_reverse,Mg]
def gh(bx by_:Int):List Int->List (Int×Int)
 |x::y::r=>(bx+x,by_+y)::gh bx by_ r
 |_=>[]
def toldOf(st:Int×Int)(rel:Bool)(g:Nat)(l:List Int):List (Int×Int):=
 let bx:=if rel=true then st.1 else 0
 let by_:=if rel=true then st.2 else 0
 if g=72 then [(bx+l.headD 0,st.2)]else if g=86 then [(st.1,by_+l.headD 0)]else gh bx by_ l
def eB(p:Int×Int):Bool:=near p.1&&near p.2
def wh(p:Int×Int):P:=(4096*p.1,4096*p.2)
theorem fT(x y:Int):wh (x,y)=whole x y:=by
 unfold wh whole UNIT;rw[Int.mul_comm 4096,Int.mul_comm 4096]
def fP(k:Int)(n:Nat):List Int:=if n=3 then [16*(16-k)*(16-k),32*k*(16-k),16*k*k]else [(16-k)*(16-k)*(16-k),3*k*(16-k)*(16-k),3*k*k*(16-k),k*k*k]
def weigh(cs:List (Int×Int))(ws:List Int):P:=(((cs.zip ws).map fun z=>z.1.1*z.2).sum,((cs.zip ws).map fun z=>z.1.2*z.2).sum)
def fB(cs:List (Int×Int)):List P:=(List.range 16).map fun(k:Nat)=>weigh cs (fP ((k:Int)+1) cs.length)
def gF(ls:Lines)(st bg:Int×Int)(told:List (Int×Int))(cD:Bool):Lines×(Int×Int)×(Int×Int):=
 if cD=true then(ls++[[wh (told.headD (0,0))]],told.headD (0,0),told.headD (0,0))
 else if told.length=1 then(ls.dropLast++[ls.getLastD []++[wh (told.headD (0,0))]],told.headD (0,0),bg)
 else(ls.dropLast++[ls.getLastD []++fB (st::told)],told.getLastD (0,0),bg)
theorem cB{I:Type}(D:List I)(l:I):(D++[l]).dropLast=D:=by simp
theorem bQ{I:Type}(D:List I)(l d:I):(D++[l]).getLastD d=l:=by simp
def aZ(g:Nat)(cD:Bool):Nat:=if g=77 then(if cD=true then 77 else 76)else g
theorem DZ{rel:Bool}{x z:Int}:(if rel=true then x+z else z)=(if rel=true then x else 0)+z:=by
 cases rel<;>simp
theorem Hl{ls:Lines}{st bg:Int×Int}{p:Pen}(h:Sim ls st bg p){g:Nat}(hg:arity g≠0){rel cD:Bool}(hb:cD=true->g=77)(hls:cD=false->ls≠[]){l:List Int}(hl:l.length=arity g):
  (((toldOf st rel g l).all eB=false)->p.step (aZ g cD) rel l=none)/\
  (((toldOf st rel g l).all eB=true)->∃p',p.step (aZ g cD) rel l=some p'/\Sim (gF ls st bg (toldOf st rel g l) cD).1 (gF ls st bg (toldOf st rel g l) cD).2.1 (gF ls st bg (toldOf st rel g l) cD).2.2 p'):=by
 obtain⟨s1,s2⟩:=st;have hst:=h.st;injection hst with e1 e2
 subst e1 e2;have hnx:=h.nr.1;have hny:=h.nr.2;have grow:cD=false->∃D,dZ D p.done/\ls=D++[p.last]:=fun hf=>by
  rcases h.ls with⟨z,_⟩|z
  .exact absurd z (hls hf)
  .exact z
 unfold arity at hg hl;by_cases g1:g=77\/g=76
 .rw[if_pos g1]at hl
  match l,hl with
  |[x,y],_=>
   have ht:toldOf (p.x,p.y) rel g [x,y]=[((if rel=true then p.x else 0)+x,(if rel=true then p.y else 0)+y)]:=by
    unfold toldOf;rw[if_neg (by omega),if_neg (by omega)];rfl
   rw[ht];simp only[all_cons,all_nil,Bool.and_true,eB];generalize hX:(if rel=true then p.x else 0)+x=X;generalize hY:(if rel=true then p.y else 0)+y=Y;have hXX:(if rel=true then p.x+x else x)=X:=by rw[DZ];exact hX
   have hYY:(if rel=true then p.y+y else y)=Y:=by rw[DZ];exact hY
   cases cD with
   |true=>
    have hg7:=hb rfl;subst hg7;have es:p.step (aZ 77 true) rel [x,y]=if [X,Y].all near=true then some (p.start X Y)else none:=by
     unfold Pen.step aZ;dsimp only;rw[if_pos rfl,if_pos rfl,if_pos rfl,hXX,hYY]
    rw[es];simp only[all_cons,all_nil,Bool.and_true];refine⟨fun z=>by rw[if_neg];rw[z];exact Bool.false_ne_true,fun z=>⟨_,if_pos z,?_⟩⟩;rw[Bool.and_eq_true]at z;have r:=h.start z.1 z.2;unfold gF;rw[if_pos rfl];dsimp only[headD_cons];rw[fT];exact r
   |false=>
    obtain⟨D,hD,rfl⟩:=grow rfl;have hr:aZ g false=76:=by
     unfold aZ;rcases g1 with z|z
     .rw[if_pos z];rfl
     .rw[if_neg (by omega)];exact z
    have es:p.step (aZ g false) rel [x,y]=if [X,Y].all near=true then some (p.to X Y)else none:=by
     rw[hr];unfold Pen.step;dsimp only;rw[if_neg (by decide),if_pos rfl,hXX,hYY]
    rw[es];simp only[all_cons,all_nil,Bool.and_true];refine⟨fun z=>by rw[if_neg];rw[z];exact Bool.false_ne_true,fun z=>⟨_,if_pos z,?_⟩⟩;rw[Bool.and_eq_true]at z;have r:=h.grow rfl hD z.1 z.2 [whole X Y] (by simp);unfold gF;rw[if_neg Bool.false_ne_true,if_pos (show List.length [_]=1 from rfl)];dsimp only[headD_cons];rw[fT,cB,bQ];exact r
 .rw[if_neg g1]at hl hg;have hbf:cD=false:=by
   cases hbb:cD with
   |false=>rfl
   |true=>exact absurd (Or.inl (hb hbb)) g1
  subst hbf;obtain⟨D,hD,rfl⟩:=grow rfl;have hr:aZ g false=g:=by
   unfold aZ;rw[if_neg (fun z=>g1 (.inl z))]
  rw[hr];by_cases g2:g=72\/g=86
  .rw[if_pos g2]at hl
   match l,hl with
   |[x],_=>
    rcases g2 with rfl|rfl
    .have ht:toldOf (p.x,p.y) rel 72 [x]=[((if rel=true then p.x else 0)+x,p.y)]:=by
      unfold toldOf;rw[if_pos rfl];rfl
     rw[ht];simp only[all_cons,all_nil,Bool.and_true,eB,hny];generalize hX:(if rel=true then p.x else 0)+x=X;have hXX:(if rel=true then p.x+x else x)=X:=by rw[DZ];exact hX
     have es:p.step 72 rel [x]=if [X].all near=true then some (p.to X p.y)else none:=by
      unfold Pen.step;dsimp only;rw[if_pos rfl,hXX]
     rw[es];simp only[all_cons,all_nil,Bool.and_true];refine⟨fun z=>by rw[if_neg];rw[z];exact Bool.false_ne_true,fun z=>⟨_,if_pos z,?_⟩⟩;have r:=h.grow rfl hD z hny [whole X p.y] (by simp);unfold gF;rw[if_neg Bool.false_ne_true,if_pos (show List.length [_]=1 from rfl)];dsimp only[headD_cons];rw[fT,cB,bQ];exact r
    .have ht:toldOf (p.x,p.y) rel 86 [x]=[(p.x,(if rel=true then p.y else 0)+x)]:=by
      unfold toldOf;rw[if_neg (by decide),if_pos rfl];rfl
     rw[ht];simp only[all_cons,all_nil,Bool.and_true,eB,hnx,Bool.true_and];generalize hX:(if rel=true then p.y else 0)+x=X;have hXX:(if rel=true then p.y+x else x)=X:=by rw[DZ];exact hX
     have es:p.step 86 rel [x]=if [X].all near=true then some (p.to p.x X)else none:=by
      unfold Pen.step;dsimp only;rw[if_neg (by decide),if_pos rfl,hXX]
     rw[es];simp only[all_cons,all_nil,Bool.and_true];refine⟨fun z=>by rw[if_neg];rw[z];exact Bool.false_ne_true,fun z=>⟨_,if_pos z,?_⟩⟩;have r:=h.grow rfl hD hnx z [whole p.x X] (by simp);unfold gF;rw[if_neg Bool.false_ne_true,if_pos (show List.length [_]=1 from rfl)];dsimp only[headD_cons];rw[fT,cB,bQ];exact r
  .rw[if_neg g2]at hl hg;have hc:(fB:List (Int×Int)->List P)=fB:=rfl;by_cases g3:g=81
   .rw[if_pos g3]at hl;subst g3
    match l,hl with
    |[x1,y1,x,y],_=>
     have ht:toldOf (p.x,p.y) rel 81 [x1,y1,x,y]=[((if rel=true then p.x else 0)+x1,(if rel=true then p.y else 0)+y1),((if rel=true then p.x else 0)+x,(if rel=true then p.y else 0)+y)]:=by
      unfold toldOf;rw[if_neg (by decide),if_neg (by decide)];rfl
     rw[ht];simp only[all_cons,all_nil,Bool.and_true,eB];generalize hX1:(if rel=true then p.x else 0)+x1=X1;generalize hY1:(if rel=true then p.y else 0)+y1=Y1;generalize hX:(if rel=true then p.x else 0)+x=X;generalize hY:(if rel=true then p.y else 0)+y=Y;have es:p.step 81 rel [x1,y1,x,y]=if [X1,Y1,X,Y].all near=true then some (p.along X Y fun k=>(16*((16-k)*(16-k)*p.x+2*k*(16-k)*X1+k*k*X),16*((16-k)*(16-k)*p.y+2*k*(16-k)*Y1+k*k*Y)))else none:=by
      unfold Pen.step;dsimp only;rw[if_pos rfl];simp only[DZ,hX1,hY1,hX,hY]
     rw[es];simp only[all_cons,all_nil,Bool.and_true];refine⟨fun z=>(by rw[if_neg];intro q;rw[Bool.and_assoc]at z;rw[q]at z;cases z),fun z=>⟨_,if_pos (by rw[Bool.and_assoc]at z;exact z),?_⟩⟩;simp only[Bool.and_eq_true]at z;have hcv:fB [(p.x,p.y),(X1,Y1),(X,Y)]=(List.range 16).map fun(k:Nat)=>(fun k:Int=>(16*((16-k)*(16-k)*p.x+2*k*(16-k)*X1+k*k*X),16*((16-k)*(16-k)*p.y+2*k*(16-k)*Y1+k*k*Y))) ((k:Int)+1):=by
      unfold fB
      apply map_congr_left
      intro k _;unfold weigh fP;rw[if_pos (show List.length [_,_,_]=3 from rfl)];generalize (k:Int)+1=j;simp only[zip_cons_cons,List.zip_nil_left,map_cons,map_nil,sum_cons,sum_nil,Prod.mk.injEq];constructor<;>grind
     have r:=h.grow rfl hD z.2.1 z.2.2 (fB [(p.x,p.y),(X1,Y1),(X,Y)]) (by rw[hcv];simp);unfold gF;rw[if_neg Bool.false_ne_true,if_neg (by simp)];rw[cB,bQ];rw[hcv]at r ⊢;exact r
   .rw[if_neg g3]at hl hg;by_cases g4:g=67
    .rw[if_pos g4]at hl;subst g4
     match l,hl with
     |[x1,y1,x2,y2,x,y],_=>
      have ht:toldOf (p.x,p.y) rel 67 [x1,y1,x2,y2,x,y]=[((if rel=true then p.x else 0)+x1,(if rel=true then p.y else 0)+y1),((if rel=true then p.x else 0)+x2,(if rel=true then p.y else 0)+y2),((if rel=true then p.x else 0)+x,(if rel=true then p.y else 0)+y)]:=by
       unfold toldOf;rw[if_neg (by decide),if_neg (by decide)];rfl
      rw[ht];simp only[all_cons,all_nil,Bool.and_true,eB];generalize hX1:(if rel=true then p.x else 0)+x1=X1;generalize hY1:(if rel=true then p.y else 0)+y1=Y1;generalize hX2:(if rel=true then p.x else 0)+x2=X2;generalize hY2:(if rel=true then p.y else 0)+y2=Y2;generalize hX:(if rel=true then p.x else 0)+x=X;generalize hY:(if rel=true then p.y else 0)+y=Y;have es:p.step 67 rel [x1,y1,x2,y2,x,y]=if [X1,Y1,X2,Y2,X,Y].all near=true then some (p.along X Y fun k=>((16-k)*(16-k)*(16-k)*p.x+3*k*(16-k)*(16-k)*X1+3*k*k*(16-k)*X2+k*k*k*X,(16-k)*(16-k)*(16-k)*p.y+3*k*(16-k)*(16-k)*Y1+3*k*k*(16-k)*Y2+k*k*k*Y))else none:=by
       unfold Pen.step;dsimp only;rw[if_pos rfl];simp only[DZ,hX1,hY1,hX2,hY2,hX,hY]
      rw[es];simp only[all_cons,all_nil,Bool.and_true];refine⟨fun z=>(by rw[if_neg];intro q;simp only[Bool.and_assoc]at z;rw[q]at z;cases z),fun z=>⟨_,if_pos (by simp only[Bool.and_assoc]at z;exact z),?_⟩⟩;simp only[Bool.and_eq_true]at z;have hcv:fB [(p.x,p.y),(X1,Y1),(X2,Y2),(X,Y)]=(List.range 16).map fun(k:Nat)=>(fun k:Int=>((16-k)*(16-k)*(16-k)*p.x+3*k*(16-k)*(16-k)*X1+3*k*k*(16-k)*X2+k*k*k*X,(16-k)*(16-k)*(16-k)*p.y+3*k*(16-k)*(16-k)*Y1+3*k*k*(16-k)*Y2+k*k*k*Y)) ((k:Int)+1):=by
       unfold fB
       apply map_congr_left
       intro k _;unfold weigh fP;rw[if_neg (by simp)];generalize (k:Int)+1=j;simp only[zip_cons_cons,List.zip_nil_left,map_cons,map_nil,sum_cons,sum_nil,Prod.mk.injEq];constructor<;>grind
      have r:=h.grow rfl hD z.2.2.1 z.2.2.2 (fB [(p.x,p.y),(X1,Y1),(X2,Y2),(X,Y)]) (by rw[hcv];simp);unfold gF;rw[if_neg Bool.false_ne_true,if_neg (by simp)];rw[cB,bQ];rw[hcv]at r ⊢;exact r
    .rw[if_neg g4]at hg;exact absurd rfl hg
theorem ja{b:B}:∀(n:Nat),b.length<=n->∀{r:B}{l:List Int},bf b=some (l,r)->l.length+r.length<=b.length/\l≠[]/\skip r=r/\∀z∈l,z.natAbs<=32767:=by
 intro n;induction n generalizing b with
 |zero=>
  intro hn r l h;have:b=[]:=length_eq_zero_iff.mp (by omega);subst this;rw[cP]at h;simp[numberAt]at h
 |succ n ih=>
  intro hn r l h;rw[cP]at h;cases hx:numberAt b with
  |none=>rw[hx]at h;cases h
  |some x=>
   obtain⟨z,q⟩:=x;have hq:=di hx;have hz:z.natAbs<=32767:=by
    rw[cI]at hx;split at hx
    .cases hx
    .rename_i hc;have hm:natOf ((unsigned b).takeWhile digit)<=32767:=by
      rw[not_or,not_or]at hc;have:=hc.2.2;unfold MOST at this;omega
     cases hx;split<;>omega
   rw[hx]at h;dsimp only[bind_some]at h;split at h
   .cases hb:between q with
    |none=>rw[hb]at h;cases h
    |some t=>
     rw[hb]at h;dsimp only[bind_some]at h;have ht:=eQ hb;cases hy:bf t with
     |none=>rw[hy]at h;cases h
     |some y=>
      obtain⟨l2,r2⟩:=y;rw[hy]at h;cases h;obtain⟨h1,h2,h3,h4⟩:=ih (b:=t) (by omega) hy;refine⟨by simp only[length_cons];omega,by simp,h3,fun w hw=>?_⟩;rcases mem_cons.mp hw with rfl|hw
      .exact hz
      .exact h4 w hw
   .cases h;refine⟨?_,by simp,bO q,fun w hw=>?_⟩
    .have:=aW q;simp only[length_cons,length_nil];omega
    .rw[mem_singleton.mp hw];exact hz
theorem qB{b r:B}{l:List Int}(h:rowAt b=some (l,r)):l.length+r.length<=b.length/\skip r=r/\∀z∈l,z.natAbs<=32767:=by
 unfold rowAt at h;have hs:=aW b;split at h
 .obtain⟨h1,_,h3,h4⟩:=ja (b:=skip b) _ (le_refl _) h;exact⟨by omega,h3,h4⟩
 .cases h;exact⟨by simpa using hs,bO b,by simp⟩
theorem v9{b:B}(hb:beginsNumber b=false):numberAt b=none:=by
 cases b with
 |nil=>simp[numberAt]
 |cons c r=>
  unfold beginsNumber at hb;simp only[Bool.or_eq_false_iff,beq_eq_false_iff_ne]at hb;rw[cI,if_pos]
  left
  have hu:unsigned (c::r)=c::r:=by
   unfold unsigned;rw[if_neg];simp only[List.head?_cons,Bool.or_eq_true,beq_iff_eq,Option.some.injEq,not_or];exact⟨hb.2.1,hb.2.2⟩
  rw[hu,takeWhile_cons,hb.1];rfl
theorem uB(p:Pen)(q:B):p.ft (skip q)=p.ft q:=by
 cases h:skip q with
 |nil=>rw[rR h,rR (by rfl)]
 |cons c r=>
  have h2:skip (c::r)=c::r:=by rw[<-h,bO]
  rw[iH h,iH h2]
def aV(c:Nat):Bool:=letter c&&(decide (aC c=90)||decide (arity (aC c)≠0))
theorem WB{c:Nat}(h:aC c=90):letter c=true:=by
 unfold aC at h;unfold letter;simp only[decide_eq_true_eq]at h;split at h
 .have:c=122:=by omega
  subst this;decide
 .subst h;decide
theorem yO{p:Pen}{q r:B}{c:Nat}(e:skip q=c::r)(h:aV c=false):p.ft q=none:=by
 rw[iH e];by_cases h9:aC c=90
 .unfold aV at h;rw[WB h9,decide_eq_true h9]at h;cases h
 .rw[if_neg h9,if_pos];unfold aV at h;rw[decide_eq_false h9,Bool.false_or,Bool.and_eq_false_iff]at h;rcases h with h|h
  .exact .inl h
  .right
   simpa using h
theorem Jd{p:Pen}{q:B}(h:beginsNumber (skip q)=true):p.ft q=none:=by
 obtain⟨c,r,e,hc⟩:=pd h;refine yO e ?_;unfold aV;have:letter c=false:=by
  unfold letter;rcases hc with hc|rfl|rfl
  .have:=fN.mp hc;simp only[Bool.or_eq_false_iff,Bool.and_eq_false_iff,decide_eq_false_iff_not];constructor<;>left<;>omega
  .decide
  .decide
 rw[this];rfl
theorem wQ{p:Pen}{q r:B}{c:Nat}(e:skip q=c::r)(h:aC c=90):(∀t,rowAt r=some ([],t)->p.ft q=p.cq.ft t)/\((∀t,rowAt r≠some ([],t))->p.ft q=none):=by
 rw[iH e,if_pos h];unfold rowAt;by_cases hb:beginsNumber (skip r)=true
 .rw[if_pos hb,Jd hb];refine⟨fun t ht=>?_,fun _=>rfl⟩;exact absurd rfl (ja _ (le_refl _) ht).2.1
 .rw[if_neg hb];refine⟨fun t ht=>?_,fun ht=>absurd rfl (ht (skip r))⟩;cases ht;rw[uB]
theorem oW{p:Pen}{q r:B}{c:Nat}(e:skip q=c::r)(h9:aC c≠90)(hl:aV c=true):
  (rowAt r=none->p.ft q=none)/\(∀t,rowAt r=some ([],t)->p.ft q=none)/\
  ∀l t,rowAt r=some (l,t)->l≠[]->p.ft q=(Pen.rows (l.length+1) p (aC c) (decide (97<=c)) l).bind fun p'=>p'.ft t:=by
 unfold aV at hl;rw[decide_eq_false h9,Bool.false_or,Bool.and_eq_true,decide_eq_true_eq]at hl;rw[iH e,if_neg h9,if_neg (by rw[hl.1];rintro(z|z);exact nomatch z;exact hl.2 z)];unfold rowAt;by_cases hb:beginsNumber (skip r)=true
 .rw[if_pos hb];refine⟨fun ht=>by rw[ht];rfl,fun t ht=>absurd rfl (ja _ (le_refl _) ht).2.1,fun l t ht _=>by rw[ht];rfl⟩
 .rw[if_neg hb];have hn:bf (skip r)=none:=j4 (v9 (by simpa using hb));rw[hn];refine⟨(nomatch ·),fun t ht=>rfl,fun l t ht hne=>?_⟩;cases ht;exact absurd rfl hne
theorem Hj{f:Nat}{p:Pen}{c:Nat}{rel:Bool}:Pen.rows (f+1) p c rel []=some p:=by
 unfold Pen.rows;rw[if_pos rfl]
theorem xV{f:Nat}{p:Pen}{c:Nat}{rel:Bool}{l:List Int}(h:l≠[])(hl:arity c<=l.length):Pen.rows (f+1) p c rel l=(p.step c rel (l.take (arity c))).bind fun q=>Pen.rows f q (if c=77 then 76 else c) rel (l.drop (arity c)):=by
 rw[Pen.rows.eq_def];dsimp only;rw[if_neg h,if_neg (by omega)]
theorem uL{g:Nat}{b:Bool}:arity (aZ g b)=arity g:=by
 unfold aZ;split
 .rename_i h;subst h;cases b<;>rfl
 .rfl
theorem yD{g:Nat}{b:Bool}:(if aZ g b=77 then 76 else aZ g b)=aZ g false:=by
 unfold aZ;by_cases h:g=77
 .rw[if_pos h,if_pos h];cases b<;>rfl
 .rw[if_neg h,if_neg h,if_neg h]
theorem Hi:∀(n f:Nat)(p:Pen)(c:Nat)(rel:Bool)(l:List Int),arity c≠0->l.length<=n->l.length%arity c≠0->l.length<f->Pen.rows f p c rel l=none:=by
 intro n;induction n with
 |zero=>
  intro f p c rel l hc hn hm hf;have:l.length=0:=by omega
  rw[this,Nat.zero_mod]at hm;exact absurd rfl hm
 |succ n ih=>
  intro f p c rel l hc hn hm hf;cases f with
  |zero=>omega
  |succ f=>
   have hne:l≠[]:=by
    rintro rfl;simp at hm
   by_cases hl:arity c<=l.length
   .rw[xV hne hl];cases p.step c rel (l.take (arity c))with
    |none=>rfl
    |some q=>
     have ha:arity (if c=77 then 76 else c)=arity c:=by
      split
      .rename_i h;subst h;rfl
      .rfl
     refine ih f q _ rel _ (by rw[ha];exact hc) (by rw[length_drop];omega) ?_ (by rw[length_drop];omega);rw[ha,length_drop];intro z
     apply hm
     rw[Nat.mod_eq_sub_mod hl];exact z
   .unfold Pen.rows;rw[if_neg hne,if_pos (by omega)]
theorem wX(p z:P):crosses p p z=0:=by
 unfold crosses;rw[if_neg (by omega),if_neg (by omega)]
theorem dZ.winding{a b:Lines}(h:dZ a b)(m:Mat)(z:P):winding m a z=winding m b z:=by
 unfold Sg35.winding;induction h with
 |nil=>rfl
 |keep l _ ih=>rw[map_cons,map_cons,sum_cons,sum_cons,ih]
 |out p _ _ ih=>
  rw[map_cons,sum_cons,ih];have:((sides ([p].map (moved m))).map fun s=>crosses s.1 s.2 z).sum=0:=by
   show([crosses (moved m p) (moved m p) z]:List Int).sum=0;rw[wX];rfl
  rw[this,zero_add]
def cr(u l z:P):Int:=if u.2<=z.2/\z.2<l.2/\(l.1-u.1)*(z.2-u.2)<=(z.1-u.1)*(l.2-u.2)then 1 else 0
def fI(p q:P):P×P:=if p.2<=q.2 then(p,q)else(q,p)
def gp(p q:P):Int:=if p.2<=q.2 then 1 else -1
theorem Cf(p q z:P):crosses p q z=gp p q*cr (fI p q).1 (fI p q).2 z:=by
 unfold crosses gp fI cr;by_cases h:p.2<=q.2
 .simp only[if_pos h];by_cases h1:p.2<=z.2/\z.2<q.2
  .rw[if_pos h1];by_cases h2:(q.1-p.1)*(z.2-p.2)<=(z.1-p.1)*(q.2-p.2)
   .rw[if_pos h2,if_pos ⟨h1.1,h1.2,h2⟩];rfl
   .rw[if_neg h2,if_neg fun k=>h2 k.2.2];rfl
  .rw[if_neg h1,if_neg (by lia),if_neg fun k=>h1 ⟨k.1,k.2.1⟩];rfl
 .simp only[if_neg h];rw[if_neg (by lia)];by_cases h1:q.2<=z.2/\z.2<p.2
  .rw[if_pos h1];by_cases h2:(p.1-q.1)*(z.2-q.2)<=(z.1-q.1)*(p.2-q.2)
   .rw[if_pos h2,if_pos ⟨h1.1,h1.2,h2⟩];rfl
   .rw[if_neg h2,if_neg fun k=>h2 k.2.2];rfl
  .rw[if_neg h1,if_neg fun k=>h1 ⟨k.1,k.2.1⟩];rfl
def br(y:Int):Int:=-((2048-y)/4096)
def lead(u l:P):Int:=(2048-u.1)*(l.2-u.2)-(2048-u.2)*(l.1-u.1)
def cY(u l:P)(r:Int):Int:=-((lead u l-4096*(l.1-u.1)*r)/(4096*(l.2-u.2)))
def ctr(x y:Int):P:=(4096*x+2048,4096*y+2048)
theorem iZ{y r:Int}:br y<=r↔y<=4096*r+2048:=by unfold br;lia
theorem jf{y r:Int}:r<br y↔4096*r+2048<y:=by unfold br;lia
theorem Jz{u l:P}{r x:Int}(h:u.2<l.2):cY u l r<=x↔(l.1-u.1)*(4096*r+2048-u.2)<=(4096*x+2048-u.1)*(l.2-u.2):=by
 unfold cY;have hp:(0:Int)<4096*(l.2-u.2):=by lia
 have e1:-((lead u l-4096*(l.1-u.1)*r)/(4096*(l.2-u.2)))<=x↔-x<=(lead u l-4096*(l.1-u.1)*r)/(4096*(l.2-u.2)):=by lia
 rw[e1,Int.le_ediv_iff_mul_le hp];have e2:(4096*x+2048-u.1)*(l.2-u.2)-(l.1-u.1)*(4096*r+2048-u.2)=(lead u l-4096*(l.1-u.1)*r)-(-x)*(4096*(l.2-u.2)):=by
  unfold lead
  grind
 lia
def thr(r:Int)(k:P×P):Int:=if br k.1.2<=r/\r<br k.2.2 then 1 else 0
def cl(W c:Int):Int:=if c<0 then 0 else if W<c then W else c
theorem Wz{W c x:Int}(h0:0<=x)(h1:x<W):cl W c<=x↔c<=x:=by unfold cl;split<;>(try split)<;>lia
theorem JA{W c:Int}(h:0<=W):0<=cl W c:=by unfold cl;split<;>(try split)<;>lia
theorem xf{W c:Int}(h:0<=W):cl W c<=W:=by unfold cl;split<;>(try split)<;>lia
theorem QO{k:P×P}{x y W:Int}(h0:0<=x)(h1:x<W):(if cl W (cY k.1 k.2 y)<=x then thr y k else 0)=cr k.1 k.2 (ctr x y):=by
 unfold thr cr ctr;simp only[iZ,jf,Wz h0 h1];by_cases h:k.1.2<=4096*y+2048/\4096*y+2048<k.2.2
 .have:=Jz (u:=k.1) (l:=k.2) (r:=y) (x:=x) (by lia);simp only[this,if_pos h];by_cases h2:(k.2.1-k.1.1)*(4096*y+2048-k.1.2)<=(4096*x+2048-k.1.1)*(k.2.2-k.1.2)
  .rw[if_pos h2,if_pos ⟨h.1,h.2,h2⟩]
  .rw[if_neg h2,if_neg fun z=>h2 z.2.2]
 .rw[if_neg h,if_neg (c:=_/\_) fun z=>h ⟨z.1,z.2.1⟩];split<;>rfl
def rng(a b:Int):List Int:=(List.range (b-a).toNat).map fun(i:Nat)=>a+(i:Int)
theorem fR{a b r:Int}:r∈rng a b↔a<=r/\r<b:=by
 unfold rng;rw[mem_map];constructor
 .rintro⟨i,hi,rfl⟩;rw[mem_range]at hi
  lia
 .intro h;exact⟨(r-a).toNat,by rw[mem_range];lia,by lia⟩
theorem jW{a b:Int}(h:a<=b):rng a (b+1)=rng a b++[b]:=by
 unfold rng;have e:(b+1-a).toNat=(b-a).toNat+1:=by lia
 rw[e,range_succ,map_append,List.map_singleton];congr 2
 lia
theorem i0{a b:Int}(h:b<=a):rng a b=[]:=by
 unfold rng;have e:(b-a).toNat=0:=by lia
 rw[e];rfl
theorem x5{a b:Int}(h:a<b):rng a b=a::rng (a+1) b:=by
 unfold rng;have e:(b-a).toNat=(b-(a+1)).toNat+1:=by lia
 rw[e,List.range_succ_eq_map,map_cons,map_map];congr 1
 .lia
 .refine map_congr_left fun i _=>?_
  show a+((i+1:Nat):Int)=a+1+(i:Int)
  lia
theorem cG{I:Type}{l:List I}{f g:I->Int}(h:∀x∈l,f x=g x):(l.map f).sum=(l.map g).sum:=by rw[map_congr_left h]
theorem dO{I:Type}{l:List I}{f:I->Int}(h:∀x∈l,f x=0):(l.map f).sum=0:=by
 induction l with
 |nil=>rfl
 |cons a l ih=>rw[map_cons,sum_cons,h a (by simp),ih fun x hx=>h x (mem_cons_of_mem _ hx)];rfl
theorem sum_add{I:Type}(l:List I)(f g:I->Int):(l.map fun x=>f x+g x).sum=(l.map f).sum+(l.map g).sum:=by
 induction l with
 |nil=>rfl
 |cons a l ih=>simp only[map_cons,sum_cons,ih];lia
theorem LM{I:Type}(l:List I)(c:Int)(f:I->Int):(l.map fun x=>c*f x).sum=c*(l.map f).sum:=by
 induction l with
 |nil=>simp
 |cons a l ih=>simp only[map_cons,sum_cons,ih,mul_add]
theorem Gq{I L:Type}(l:List I)(m:List L)(f:I->L->Int):(l.map fun a=>(m.map fun b=>f a b).sum).sum=(m.map fun b=>(l.map fun a=>f a b).sum).sum:=by
 induction l with
 |nil=>rw[dO (l:=m) (by intro b _;rfl)];rfl
 |cons a l ih=>
  simp only[map_cons,sum_cons,ih];rw[<-sum_add]
theorem vO{a b c:Int}(h1:a<=b)(h2:b<=c):rng a c=rng a b++rng b c:=by
 obtain⟨n,rfl⟩:∃n:Nat,c=b+n:=⟨(c-b).toNat,by lia⟩;induction n with
 |zero=>rw[Int.natCast_zero,add_zero,i0 (Int.le_refl b),append_nil]
 |succ n ih=>
  have e:b+((n+1:Nat):Int)=b+(n:Int)+1:=by lia
  rw[e,jW (by lia),jW (by lia),ih (by lia),append_assoc]
theorem ml{I:Type}(l m:List I)(f:I->Int):((l++m).map f).sum=(l.map f).sum+(m.map f).sum:=by
 rw[map_append,sum_append]
theorem Gr{lo hi a b:Int}{g:Int->Int}(h0:∀r,lo<=r->r<hi->¬(a<=r/\r<b)->g r=0):((rng lo hi).map g).sum=((rng (max lo a) (min hi b)).map g).sum:=by
 by_cases hh:max lo a<=min hi b
 .have e1:lo<=max lo a:=by lia
  have e2:min hi b<=hi:=by lia
  rw[vO (b:=max lo a) (c:=hi) e1 (by lia),vO (b:=min hi b) (c:=hi) hh e2,ml,ml];rw[dO (l:=rng lo (max lo a)) (by intro r hr;rw[fR]at hr;exact h0 r hr.1 (by lia) (by lia))];rw[dO (l:=rng (min hi b) hi) (by intro r hr;rw[fR]at hr;exact h0 r (by lia) hr.2 (by lia))]
  lia
 .rw[i0 (a:=max lo a) (by lia)];rw[dO (l:=rng lo hi) (by intro r hr;rw[fR]at hr;exact h0 r hr.1 hr.2 (by lia))];rfl
def upTo(W lo hi:Int)(k:P×P)(t:Int):Int:=((rng (max lo (br k.1.2)) (min hi (br k.2.2))).map fun r=>if r*(W+1)+cl W (cY k.1 k.2 r)<=t then(1:Int)else 0).sum
theorem pS{W lo hi:Int}{k:P×P}{t:Int}:upTo W lo hi k t=((rng lo hi).map fun r=>if r*(W+1)+cl W (cY k.1 k.2 r)<=t then thr r k else 0).sum:=by
 unfold upTo;rw[Gr (lo:=lo) (hi:=hi) (a:=br k.1.2) (b:=br k.2.2)]
 .refine cG fun r hr=>?_
  rw[fR]at hr;have:thr r k=1:=by unfold thr;rw[if_pos (by lia)]
  rw[this]
 .intro r _ _ h;have:thr r k=0:=by unfold thr;rw[if_neg h]
  rw[this];split<;>rfl
theorem lN{W r y:Int}{c x:Int}(hW:0<=W)(hc:c<=W)(hx:0<=x)(h:r<y):r*(W+1)+c<y*(W+1)+x:=by
 have h1:(r+1)*(W+1)<=y*(W+1):=Int.mul_le_mul_of_nonneg_right (by lia) (by lia);rw[add_mul,one_mul]at h1
 lia
theorem Cz{W lo hi x y:Int}{k:P×P}(hW:0<=W)(h1:lo<=y)(h2:y<hi)(hx:0<=x)(hxW:x<=W):
  upTo W lo hi k (y*(W+1)+x)=((rng lo y).map fun r=>thr r k).sum+if cl W (cY k.1 k.2 y)<=x then thr y k else 0:=by
 rw[pS,vO (b:=y) (c:=hi) h1 (by lia),ml,x5 h2,map_cons,sum_cons];have e1:((rng lo y).map fun r=>if r*(W+1)+cl W (cY k.1 k.2 r)<=y*(W+1)+x then thr r k else 0).sum=((rng lo y).map fun r=>thr r k).sum:=by
  refine cG fun r hr=>?_
  rw[fR]at hr;rw[if_pos (Int.le_of_lt (lN hW (xf hW) hx hr.2))]
 have e2:((rng (y+1) hi).map fun r=>if r*(W+1)+cl W (cY k.1 k.2 r)<=y*(W+1)+x then thr r k else 0).sum=0:=by
  refine dO fun r hr=>?_
  rw[fR]at hr;rw[if_neg];have:=lN (r:=y) (y:=r) (c:=x) (x:=cl W (cY k.1 k.2 r)) hW hxW (JA hW) (by lia)
  lia
 rw[e1,e2];have e3:(y*(W+1)+cl W (cY k.1 k.2 y)<=y*(W+1)+x)↔(cl W (cY k.1 k.2 y)<=x):=by lia
 simp only[e3]
 lia
theorem xq{W lo hi t:Int}{k:P×P}(hW:0<=W)(h:t<lo*(W+1)):upTo W lo hi k t=0:=by
 rw[pS];refine dO fun r hr=>?_
 rw[fR]at hr;rw[if_neg];have h1:lo*(W+1)<=r*(W+1):=Int.mul_le_mul_of_nonneg_right hr.1 (by lia);have:=JA (W:=W) (c:=cY k.1 k.2 r) hW
 lia
theorem xp{W lo hi t:Int}{k:P×P}(hW:0<=W)(h:hi*(W+1)<=t):upTo W lo hi k t=((rng lo hi).map fun r=>thr r k).sum:=by
 rw[pS];refine cG fun r hr=>?_
 rw[fR]at hr;rw[if_pos];have:=lN (r:=r) (y:=hi) (c:=cl W (cY k.1 k.2 r)) (x:=0) hW (xf hW) (Int.le_refl 0) hr.2
 lia
def under(r:Int)(p:P):Int:=if p.2<=4096*r+2048 then 1 else 0
theorem D7(r:Int)(p q:P):gp p q*thr r (fI p q)=under r p-under r q:=by
 unfold gp thr fI under;by_cases h:p.2<=q.2
 .simp only[if_pos h,iZ,jf];split<;>split<;>split<;>lia
 .simp only[if_neg h,iZ,jf];split<;>split<;>split<;>lia
theorem Cw{I:Type}:∀(l m:List I)(f:I->Int),l.length=m.length->((l.zip m).map fun s=>f s.1-f s.2).sum=(l.map f).sum-(m.map f).sum
 |[],[],_,_=>rfl
 |a::l,b::m,f,h=>by
  rw[zip_cons_cons,map_cons,sum_cons,Cw l m f (by simpa using h),map_cons,map_cons,sum_cons,sum_cons];show f a-f b+_=_
  lia
theorem closed(l:List P)(f:P->Int):((sides l).map fun s=>f s.1-f s.2).sum=0:=by
 unfold sides;rw[Cw l _ f (by rw[length_append,length_drop,length_take];lia)];have:((l.drop 1++l.take 1).map f).sum=(l.map f).sum:=by
  cases l with
  |nil=>rfl
  |cons a l=>
   show((l++[a]).map f).sum=_;rw[map_append,sum_append,map_cons,sum_cons];simp
   lia
 lia
theorem Ck(l:List P)(r:Int):((sides l).map fun s=>gp s.1 s.2*thr r (fI s.1 s.2)).sum=0:=by
 rw[<-closed l (under r)];exact cG fun s _=>D7 r s.1 s.2
def cE(m:Mat)(ls:Lines):List (P×P):=ls.flatMap fun l=>sides (l.map (moved m))
theorem xC{I L:Type}(l:List I)(g:I->List L)(f:L->Int):((l.flatMap g).map f).sum=(l.map fun a=>((g a).map f).sum).sum:=by
 induction l with
 |nil=>rfl
 |cons a l ih=>rw[flatMap_cons,ml,ih,map_cons,sum_cons]
theorem Aw(m:Mat)(ls:Lines)(z:P):winding m ls z=((cE m ls).map fun s=>gp s.1 s.2*cr (fI s.1 s.2).1 (fI s.1 s.2).2 z).sum:=by
 unfold winding cE;rw[xC];refine cG fun l _=>cG fun s _=>?_
 exact Cf s.1 s.2 z
def total(W lo hi:Int)(m:Mat)(ls:Lines)(t:Int):Int:=((cE m ls).map fun s=>gp s.1 s.2*upTo W lo hi (fI s.1 s.2) t).sum
theorem DM(m:Mat)(ls:Lines)(r:Int):((cE m ls).map fun s=>gp s.1 s.2*thr r (fI s.1 s.2)).sum=0:=by
 unfold cE;rw[xC];exact dO fun l _=>Ck _ r
theorem all_rows(m:Mat)(ls:Lines)(a b:Int):((cE m ls).map fun s=>gp s.1 s.2*((rng a b).map fun r=>thr r (fI s.1 s.2)).sum).sum=0:=by
 have:((cE m ls).map fun s=>gp s.1 s.2*((rng a b).map fun r=>thr r (fI s.1 s.2)).sum).sum=((cE m ls).map fun s=>((rng a b).map fun r=>gp s.1 s.2*thr r (fI s.1 s.2)).sum).sum:=cG fun s _=>(LM _ _ _).symm
 rw[this,Gq];exact dO fun r _=>DM m ls r
theorem xx{W lo hi x y:Int}(m:Mat)(ls:Lines)(h1:lo<=y)(h2:y<hi)(hx:0<=x)(hxW:x<W):total W lo hi m ls (y*(W+1)+x)=winding m ls (ctr x y):=by
 unfold total;rw[Aw];have e:((cE m ls).map fun s=>gp s.1 s.2*upTo W lo hi (fI s.1 s.2) (y*(W+1)+x)).sum=((cE m ls).map fun s=>gp s.1 s.2*((rng lo y).map fun r=>thr r (fI s.1 s.2)).sum+gp s.1 s.2*cr (fI s.1 s.2).1 (fI s.1 s.2).2 (ctr x y)).sum:=by
  refine cG fun s _=>?_
  rw[Cz (by lia) h1 h2 hx (by lia),QO hx hxW,mul_add]
 rw[e,sum_add,all_rows]
 lia
theorem AG{W lo hi y:Int}(m:Mat)(ls:Lines)(hW:0<=W)(h1:lo<=y)(h2:y<hi):total W lo hi m ls (y*(W+1)+W)=0:=by
 unfold total;have e:((cE m ls).map fun s=>gp s.1 s.2*upTo W lo hi (fI s.1 s.2) (y*(W+1)+W)).sum=((cE m ls).map fun s=>gp s.1 s.2*((rng lo y).map fun r=>thr r (fI s.1 s.2)).sum+gp s.1 s.2*thr y (fI s.1 s.2)).sum:=by
  refine cG fun s _=>?_
  rw[Cz hW h1 h2 hW (Int.le_refl W),if_pos (xf hW),mul_add]
 rw[e,sum_add,all_rows,DM];rfl
theorem vg{W lo hi t:Int}(m:Mat)(ls:Lines)(hW:0<=W)(h:t<lo*(W+1)):total W lo hi m ls t=0:=by
 unfold total;refine dO fun s _=>?_
 rw[xq hW h,Int.mul_zero]
theorem mj{W lo hi t:Int}(m:Mat)(ls:Lines)(hW:0<=W)(h:hi*(W+1)<=t):total W lo hi m ls t=0:=by
 unfold total;rw[<-all_rows m ls lo hi];refine cG fun s _=>?_
 rw[xp hW h]
theorem Fz{W:Int}(hW:0<=W)(t:Int):∃x y,t=y*(W+1)+x/\0<=x/\x<=W:=by
 refine⟨t%(W+1),t/(W+1),?_,Int.emod_nonneg _ (by lia),by have:=Int.emod_lt_of_pos t (b:=W+1) (by lia);lia⟩;have:=Int.mul_ediv_add_emod t (W+1);rw[Int.mul_comm]at this
 lia
def InW(W lo hi t:Int)(c:Int->Int->Prop):Prop:=∃x y,t=y*(W+1)+x/\0<=x/\x<W/\lo<=y/\y<hi/\c x y
theorem Hk{W x y x' y':Int}(hx:0<=x)(hW:x<=W)(hx':0<=x')(hW':x'<=W)(h:y*(W+1)+x=y'*(W+1)+x'):x=x'/\y=y':=by
 have hW0:0<=W:=by lia
 rcases Int.lt_trichotomy y y' with k|k|k
 .have:=lN hW0 hW hx' k;lia
 .subst k;lia
 .have:=lN hW0 hW' hx k;lia
theorem ve{W lo hi t:Int}(m:Mat)(ls:Lines)(hW:0<=W)(ins:Int->Bool)(h0:ins 0=false):
  ins (total W lo hi m ls t)=true↔InW W lo hi t fun x y=>ins (winding m ls (ctr x y))=true:=by
 constructor
 .intro h;obtain⟨x,y,rfl,hx,hxW⟩:=Fz hW t;by_cases h1:lo<=y
  .by_cases h2:y<hi
   .by_cases h3:x<W
    .rw[xx m ls h1 h2 hx h3]at h;exact⟨x,y,rfl,hx,h3,h1,h2,h⟩
    .have:x=W:=by lia
     subst this;rw[AG m ls hW h1 h2,h0]at h;cases h
   .have:hi*(W+1)<=y*(W+1):=Int.mul_le_mul_of_nonneg_right (by lia) (by lia);rw[mj m ls hW (by lia),h0]at h;cases h
  .have:=lN (r:=y) (y:=lo) (c:=x) (x:=0) hW hxW (Int.le_refl 0) (by lia);rw[vg m ls hW (by lia),h0]at h;cases h
 .rintro⟨x,y,rfl,hx,hxW,h1,h2,hc⟩;rw[xx m ls h1 h2 hx hxW];exact hc
def cz(l:List P)(i:Nat):P×P:=((if i=0 then l.getLastD (0,0)else l.getD (i-1) (0,0)),l.getD i (0,0))
theorem AS(l:List P)(f:P×P->Int):((List.range l.length).map fun i=>f (cz l i)).sum=((sides l).map f).sum:=by
 cases l with
 |nil=>rfl
 |cons a r=>
  have e1:sides (a::r)=(a::r).zip (r++[a]):=rfl;rw[e1,length_cons,List.range_succ_eq_map,map_cons,sum_cons,map_map];have h0:cz (a::r) 0=((a::r).getLastD (0,0),a):=rfl;rw[h0];have key:∀(a z:P)(r:List P),((a::r).zip (r++[z]))=((List.range r.length).map fun i=>((a::r).getD i (0,0),r.getD i (0,0)))++[((a::r).getLastD (0,0),z)]:=by
   intro a z r;induction r generalizing a with
   |nil=>rfl
   |cons b r ih=>
    rw[cons_append,zip_cons_cons,ih b,length_cons,List.range_succ_eq_map,map_cons,map_map,cons_append];congr 1
  rw[key a a r,map_append,sum_append,map_map];have e2:((List.range r.length).map ((fun i=>f (cz (a::r) i)) ∘ Nat.succ))=(List.range r.length).map (f ∘ fun i=>((a::r).getD i (0,0),r.getD i (0,0))):=by
   refine map_congr_left fun i _=>?_
   show f (cz (a::r) (i+1))=f ((a::r).getD i (0,0),r.getD i (0,0));unfold cz;rw[if_neg (by omega)];rfl
  rw[e2];simp;omega
section
variable{D:Type}[DecidableEq D]
def cX(kvs:List (D×Int))(k:D):Int:=((kvs.find? fun p=>decide (p.1=k)).map (·.2)).getD 0
def gG(kvs:List (D×Int))(k:D)(v:Int):List (D×Int):=
 if (kvs.any fun p=>decide (p.1=k))=true then kvs.map (fun p=>if p.1=k then(p.1,v)else p)else kvs++[(k,v)]
def sumF(kvs:List (D×Int))(F:D->Int):Int:=(kvs.map fun p=>p.2*F p.1).sum
theorem gv{p:D×Int}{r:List (D×Int)}{k:D}(h:p.1=k):cX (p::r) k=p.2:=by simp[cX,List.find?_cons,h]
theorem gu{p:D×Int}{r:List (D×Int)}{k:D}(h:p.1≠k):cX (p::r) k=cX r k:=by simp[cX,List.find?_cons,h]
theorem mw{p:D×Int}{r:List (D×Int)}{k:D}{v:Int}(h:p.1≠k):gG (p::r) k v=p::gG r k v:=by
 unfold gG;rw[any_cons,decide_eq_false h,Bool.false_or];split
 .rw[map_cons,if_neg h]
 .rfl
theorem Iv{r:List (D×Int)}{k:D}{v:Int}(h:k∉r.map (·.1)):(r.map fun p=>if p.1=k then(p.1,v)else p)=r:=by
 induction r with
 |nil=>rfl
 |cons p r ih=>
  rw[map_cons,mem_cons,not_or]at h;rw[map_cons,if_neg fun e=>h.1 e.symm,ih h.2]
theorem vR{p:D×Int}{r:List (D×Int)}{k:D}{v:Int}(h:p.1=k)(nd:((p::r).map (·.1)).Nodup):gG (p::r) k v=(k,v)::r:=by
 unfold gG;rw[any_cons,decide_eq_true h,Bool.true_or,if_pos rfl,map_cons,if_pos h];rw[map_cons,nodup_cons]at nd;rw[Iv (by rw[<-h];exact nd.1),h]
theorem ud{kvs:List (D×Int)}{k:D}{v:Int}:(gG kvs k v).map (·.1)=if k∈kvs.map (·.1)then kvs.map (·.1)else kvs.map (·.1)++[k]:=by
 induction kvs with
 |nil=>rfl
 |cons p r ih=>
  by_cases h:p.1=k
  .unfold gG;rw[any_cons,decide_eq_true h,Bool.true_or,if_pos rfl,if_pos (by rw[map_cons,h];exact mem_cons_self ..),map_map];refine map_congr_left fun q _=>?_
   show(if q.1=k then(q.1,v)else q).1=q.1;split<;>rfl
  .rw[mw h,map_cons,ih,map_cons];by_cases h2:k∈r.map (·.1)
   .rw[if_pos h2,if_pos (mem_cons_of_mem _ h2)]
   .rw[if_neg h2,if_neg (by rw[mem_cons,not_or];exact⟨fun e=>h e.symm,h2⟩)];rfl
theorem qC{kvs:List (D×Int)}{k:D}{v:Int}(nd:(kvs.map (·.1)).Nodup):((gG kvs k v).map (·.1)).Nodup:=by
 rw[ud];split
 .exact nd
 .rename_i h;rw[List.nodup_append];refine⟨nd,by simp,fun a ha b hb=>?_⟩;rw[mem_singleton]at hb;subst hb;exact fun e=>h (e ▸ ha)
theorem qD{kvs:List (D×Int)}{k j:D}{v:Int}(h:j∈(gG kvs k v).map (·.1)):j∈kvs.map (·.1)\/j=k:=by
 rw[ud]at h;split at h
 .exact .inl h
 .rw[mem_append,mem_singleton]at h;exact h
theorem qE(kvs:List (D×Int))(k:D)(v:Int):(gG kvs k v).length<=kvs.length+1:=by
 unfold gG;split
 .rw[length_map];omega
 .rw[length_append];exact le_refl _
theorem jN{F:D->Int}{k:D}{c:Int}:∀{kvs:List (D×Int)},(kvs.map (·.1)).Nodup->sumF (gG kvs k (cX kvs k+c)) F=sumF kvs F+c*F k
 |[],_=>by simp[sumF,gG,cX]
 |p::r,nd=>by
  by_cases h:p.1=k
  .rw[vR h nd,gv h];simp only[sumF,map_cons,sum_cons,h,add_mul];omega
  .rw[mw h,gu h];have ih:=jN (F:=F) (k:=k) (c:=c) (kvs:=r) (by rw[map_cons,nodup_cons]at nd;exact nd.2);simp only[sumF,map_cons,sum_cons]at ih ⊢;rw[ih];omega
theorem rW:∀{kvs:List (D×Int)}{p:D×Int},(kvs.map (·.1)).Nodup->p∈kvs->cX kvs p.1=p.2
 |q::r,p,nd,h=>by
  rw[map_cons,nodup_cons]at nd;rw[mem_cons]at h;rcases h with rfl|h
  .exact gv rfl
  .rw[gu (fun e=>nd.1 (by rw[e];exact mem_map_of_mem h)),rW nd.2 h]
end
theorem n8:∀{n:Nat}{l:List Int}{a b:Int},(b-a).toNat=n->l.Nodup->(∀x∈l,a<=x/\x<b)->l.length<=n
 |0,l,a,b,e,_,h=>by
  cases l with
  |nil=>exact le_refl _
  |cons x r=>have:=h x (by simp);omega
 |n+1,l,a,b,e,nd,h=>by
  by_cases hm:b-1∈l
  .have ih:=n8 (n:=n) (l:=l.erase (b-1)) (a:=a) (b:=b-1) (by omega) (nd.erase _) (fun x hx=>by
    rw[nd.mem_erase_iff]at hx;have:=h x hx.2;have:=hx.1
    omega)
   rw[List.length_erase_of_mem hm]at ih;omega
  .have ih:=n8 (n:=n) (l:=l) (a:=a) (b:=b-1) (by omega) nd (fun x hx=>by
    have:=h x hx;have:x≠b-1:=fun e=>hm (e ▸ hx)
    omega)
   omega
def dN(ins:Int->Bool)(v:Int->Int):Int->Int->List Int->List (Int×Int)
 |_,_,[]=>[]
 |tot,bg,d::r=>(if ins tot=true then [(bg,d)]else [])++dN ins v (tot+v d) d r
def pG(sp:List (Int×Int))(t:Int):Prop:=∃s∈sp,s.1<=t/\t<s.2
def Asc:Int->List (Int×Int)->Prop
 |_,[]=>True
 |lo,s::r=>lo<=s.1/\s.1<s.2/\Asc s.2 r
theorem Asc.mono{a b:Int}(h:a<=b):∀{sp:List (Int×Int)},Asc b sp->Asc a sp
 |[],_=>trivial
 |_::_,k=>⟨Int.le_trans h k.1,k.2⟩
theorem Asc.low:∀{sp:List (Int×Int)}{a:Int},Asc a sp->∀s∈sp,a<=s.1/\s.1<s.2
 |s::r,a,h,q,hq=>by
  rw[mem_cons]at hq;rcases hq with rfl|hq
  .exact⟨h.1,h.2.1⟩
  .have:=Asc.low h.2.2 q hq;have:=h.1;have:=h.2.1;omega
theorem Asc.Ia{sp:List (Int×Int)}{a t:Int}(h:Asc a sp)(ht:t<a):¬pG sp t:=by
 rintro⟨s,hs,h1,h2⟩;have:=h.low s hs;omega
theorem nH{ins:Int->Bool}{v:Int->Int}:∀{ds:List Int}{tot bg:Int},ds.Pairwise (·<·)->(∀d∈ds,bg<d)->Asc bg (dN ins v tot bg ds)
 |[],_,_,_,_=>trivial
 |d::r,tot,bg,hp,hb=>by
  rw[pairwise_cons]at hp;have ih:=nH (ins:=ins) (v:=v) (ds:=r) (tot:=tot+v d) (bg:=d) hp.2 hp.1;have hd:=hb d (by simp);unfold dN;split
  .exact⟨Int.le_refl _,hd,ih⟩
  .exact ih.mono (by omega)
def mn(ds:List Int)(v:Int->Int)(t:Int):Int:=(ds.map fun d=>if d<=t then v d else 0).sum
theorem xm{ins:Int->Bool}{v:Int->Int}:∀{ds:List Int}{tot bg t:Int},ds.Pairwise (·<·)->(∀d∈ds,bg<d)->bg<=t->(pG (dN ins v tot bg ds) t↔(∃d∈ds,t<d)/\ins (tot+mn ds v t)=true)
 |[],_,_,_,_,_,_=>by simp[dN,pG]
 |d::r,tot,bg,t,hp,hb,hbt=>by
  rw[pairwise_cons]at hp;have hd:=hb d (by simp);by_cases h:t<d
  .have e:mn (d::r) v t=0:=by
    refine dO fun x hx=>?_
    rw[if_neg];rw[mem_cons]at hx;rcases hx with rfl|hx
    .omega
    .have:=hp.1 x hx;omega
   rw[e,add_zero];have hn:¬pG (dN ins v (tot+v d) d r) t:=(nH hp.2 hp.1).Ia h;unfold dN;constructor
   .rintro⟨s,hs,h1,h2⟩;rw[mem_append]at hs;rcases hs with hs|hs
    .split at hs
     .rename_i hi;exact⟨⟨d,by simp,h⟩,hi⟩
     .cases hs
    .exact(hn ⟨s,hs,h1,h2⟩).elim
   .rintro⟨_,hi⟩;rw[if_pos hi];exact⟨(bg,d),by simp,hbt,h⟩
  .have ih:=xm (ins:=ins) (v:=v) (ds:=r) (tot:=tot+v d) (bg:=d) (t:=t) hp.2 hp.1 (by omega);have e:mn (d::r) v t=v d+mn r v t:=by
    unfold mn;rw[map_cons,sum_cons,if_pos (by omega)]
   rw[e,<-Int.add_assoc];have hw:pG (dN ins v tot bg (d::r)) t↔pG (dN ins v (tot+v d) d r) t:=by
    conv=>lhs;unfold dN
    constructor
    .rintro⟨s,hs,h1,h2⟩;rw[mem_append]at hs;rcases hs with hs|hs
     .split at hs
      .rw[mem_singleton]at hs;subst hs;exact(h h2).elim
      .cases hs
     .exact⟨s,hs,h1,h2⟩
    .rintro⟨s,hs,h1,h2⟩;exact⟨s,mem_append_right _ hs,h1,h2⟩
   rw[hw,ih];constructor
   .rintro⟨⟨x,hx,h1⟩,h2⟩;exact⟨⟨x,mem_cons_of_mem _ hx,h1⟩,h2⟩
   .rintro⟨⟨x,hx,h1⟩,h2⟩;rw[mem_cons]at hx;rcases hx with rfl|hx
    .exact(h h1).elim
    .exact⟨⟨x,hx,h1⟩,h2⟩
theorem HJ{l m:List Int}(h:l.Perm m):l.sum=m.sum:=by
 induction h with
 |nil=>rfl
 |cons a _ ih=>rw[sum_cons,sum_cons,ih]
 |swap a b l=>simp only[sum_cons];omega
 |trans _ _ h1 h2=>exact h1.trans h2
def acc(kvs:List (Int×Int))(t:Int):Int:=sumF kvs fun d=>if d<=t then 1 else 0
theorem Eb{kvs:List (Int×Int)}(nd:(kvs.map (·.1)).Nodup){ks:List Int}(hp:ks.Perm (kvs.map (·.1)))(t:Int):mn ks (cX kvs) t=acc kvs t:=by
 unfold mn acc sumF;rw[HJ (hp.map fun d=>if d<=t then cX kvs d else 0),map_map];refine cG fun p hq=>?_
 show(if p.1<=t then cX kvs p.1 else 0)=p.2*(if p.1<=t then 1 else 0);rw[rW nd hq];split<;>omega
def kX(W lo hi:Int)(c:Int->Int->Prop)(sp:List (Int×Int)):Prop:=(∃a,Asc a sp)/\∀t,pG sp t↔InW W lo hi t c
theorem Ni{kvs:List (Int×Int)}{t T:Int}(h:∀d∈kvs.map (·.1),d<=t)(hT:t<=T):acc kvs t=acc kvs T:=by
 unfold acc sumF;refine cG fun p hp=>?_
 have:=h p.1 (mem_map_of_mem hp);show p.2*(if p.1<=t then 1 else 0)=p.2*(if p.1<=T then 1 else 0);rw[if_pos this,if_pos (by lia)]
theorem Nj{kvs:List (Int×Int)}{t:Int}(h:∀d∈kvs.map (·.1),t<d):acc kvs t=0:=by
 unfold acc sumF;refine dO fun p hp=>?_
 have:=h p.1 (mem_map_of_mem hp);show p.2*(if p.1<=t then 1 else 0)=0;rw[if_neg (by lia),Int.mul_zero]
theorem strict{ks:List Int}(nd:ks.Nodup)(h:ks.Pairwise (·<=·)):ks.Pairwise (·<·):=by
 have h2:ks.Pairwise (·≠·):=nd;exact(h.and h2).imp fun⟨a,b⟩=>by lia
theorem Bm{W lo hi:Int}{m:Mat}{ls:Lines}{kvs:List (Int×Int)}{ks:List Int}{ins:Int->Bool}(hW:0<=W)(nd:(kvs.map (·.1)).Nodup)(hp:ks.Perm (kvs.map (·.1)))(hs:ks.Pairwise (·<=·))
  (h0:ins 0=false) (ki:∀t,acc kvs t=total W lo hi m ls t):kX W lo hi (fun x y=>ins (winding m ls (ctr x y))=true) (dN ins (cX kvs) 0 0 ks):=by
 have hst:=strict (hp.nodup_iff.mpr nd) hs;have fin:∀t,(∀d∈kvs.map (·.1),d<=t)->ins (acc kvs t)=false:=fun t h=>by
  have e:acc kvs t=acc kvs (max t (hi*(W+1))):=Ni h (by lia);rw[e,ki,mj m ls hW (by lia),h0]
 have main:(∃a,Asc a (dN ins (cX kvs) 0 0 ks))/\∀t,pG (dN ins (cX kvs) 0 0 ks) t↔ins (acc kvs t)=true:=by
  cases ks with
  |nil=>
   refine⟨⟨0,trivial⟩,fun t=>⟨fun⟨s,hs,_⟩=>(by cases hs),fun h=>?_⟩⟩;rw[fin t (fun d hd=>by have:=hp.mem_iff.mpr hd;cases this)]at h;cases h
  |cons d r=>
   have ew:dN ins (cX kvs) 0 0 (d::r)=dN ins (cX kvs) (cX kvs d) d r:=by
    conv=>lhs;unfold dN
    rw[if_neg (by rw[h0];exact Bool.false_ne_true),zero_add];rfl
   rw[ew];rw[pairwise_cons]at hst;have has:=nH (ins:=ins) (v:=cX kvs) (tot:=cX kvs d) hst.2 hst.1;refine⟨⟨d,has⟩,fun t=>?_⟩;by_cases ht:d<=t
   .rw[xm hst.2 hst.1 ht];have e:cX kvs d+mn r (cX kvs) t=acc kvs t:=by
     rw[<-Eb nd hp];unfold mn;rw[map_cons,sum_cons,if_pos ht]
    rw[e];constructor
    .exact fun h=>h.2
    .intro h;refine⟨?_,h⟩;by_cases hx:∃x∈r,t<x
     .exact hx
     .rw[fin t (fun x hx2=>by
       have:=hp.mem_iff.mpr hx2;rw[mem_cons]at this;rcases this with rfl|h2
       .exact ht
       .exact not_lt.mp fun z=>hx ⟨x,h2,z⟩)]at h
      cases h
   .constructor
    .intro h;exact(has.Ia (by lia) h).elim
    .intro h;rw[Nj (fun x hx=>by
      have:=hp.mem_iff.mpr hx;rw[mem_cons]at this;rcases this with rfl|h2
      .lia
      .have:=hst.1 x h2;lia),h0]at h
     cases h
 refine⟨main.1,fun t=>?_⟩;rw[main.2 t,ki t];exact ve m ls hW ins h0
def jt(W:Int)(f b:Int->Int)(r:Int):List (Int×Int):=if f r<b r then [(r*(W+1)+f r,r*(W+1)+b r)]else []
theorem t9{W:Int}{f b:Int->Int}(hW:0<=W)(hf:∀r,0<=f r)(hb:∀r,b r<=W):∀{n:Nat}{lo:Int},Asc (lo*(W+1)) ((rng lo (lo+n)).flatMap (jt W f b))
 |0,lo=>by rw[i0 (by lia)];trivial
 |n+1,lo=>by
  rw[x5 (by lia),flatMap_cons];have e:lo+((n+1:Nat):Int)=lo+1+(n:Int):=by lia
  rw[e];have ih:=t9 (W:=W) (f:=f) (b:=b) hW hf hb (n:=n) (lo:=lo+1);have e2:(lo+1)*(W+1)=lo*(W+1)+(W+1):=by rw[add_mul,one_mul]
  rw[e2]at ih;have h1:=hf lo;have h2:=hb lo;unfold jt;split
  .exact⟨by show lo*(W+1)<=lo*(W+1)+f lo;lia,by show lo*(W+1)+f lo<lo*(W+1)+b lo;lia,ih.mono (by show lo*(W+1)+b lo<=_;lia)⟩
  .exact Asc.mono (by lia) ih
theorem Hn{W:Int}{f b:Int->Int}{lo hi t:Int}:pG ((rng lo hi).flatMap (jt W f b)) t↔∃r x,lo<=r/\r<hi/\f r<=x/\x<b r/\t=r*(W+1)+x:=by
 constructor
 .rintro⟨s,hs,h1,h2⟩;rw[List.mem_flatMap]at hs;obtain⟨r,hr,hs⟩:=hs;rw[fR]at hr;unfold jt at hs;split at hs
  .rw[mem_singleton]at hs;subst hs;exact⟨r,t-r*(W+1),hr.1,hr.2,by show f r<=_;have:r*(W+1)+f r<=t:=h1;lia,by have:t<r*(W+1)+b r:=h2;lia,by lia⟩
  .cases hs
 .rintro⟨r,x,h1,h2,h3,h4,rfl⟩;refine⟨(r*(W+1)+f r,r*(W+1)+b r),?_,by show r*(W+1)+f r<=_;lia,by show _<r*(W+1)+b r;lia⟩;rw[List.mem_flatMap];refine⟨r,fR.mpr ⟨h1,h2⟩,?_⟩;unfold jt;rw[if_pos (by lia)];simp
def inB(sp:List (Int×Int))(t:Int):Bool:=sp.any fun s=>decide (s.1<=t)&&decide (t<s.2)
theorem wO{sp:List (Int×Int)}{t:Int}:inB sp t=true↔pG sp t:=by
 unfold inB pG;rw[List.any_eq_true];constructor
 .rintro⟨s,hs,h⟩;rw[Bool.and_eq_true,decide_eq_true_eq,decide_eq_true_eq]at h;exact⟨s,hs,h⟩
 .rintro⟨s,hs,h⟩;exact⟨s,hs,by rw[Bool.and_eq_true,decide_eq_true_eq,decide_eq_true_eq];exact h⟩
theorem L4(a b:Int):(rng a b).length=(b-a).toNat:=by unfold rng;rw[length_map,length_range]
def ej(n s:Int):Prop:=0<=s/\s*s<=n/\n<(s+1)*(s+1)
theorem CQ{x y:Int}(hx:0<=x)(h:x<=y):x*x<=y*y:=Int.mul_le_mul h h hx (by omega)
theorem qU{x y:Int}(hy:0<=y)(h:x*x<y*y):x<y:=by
 by_cases k:x<y
 .exact k
 .have:=CQ hy (not_lt.mp k);omega
theorem jV{n s z:Int}(h:ej n s):z*z<=n↔-s<=z/\z<=s:=by
 obtain⟨h0,h1,h2⟩:=h;constructor
 .intro hz;have a:=qU (x:=z) (y:=s+1) (by omega) (by omega);have b:=qU (x:=-z) (y:=s+1) (by omega) (by rw[neg_mul_neg];omega);omega
 .rintro⟨ha,hb⟩;by_cases hz:0<=z
  .have:=CQ hz hb;omega
  .have:=CQ (x:=-z) (y:=s) (by omega) (by omega);rw[neg_mul_neg]at this;omega
theorem wk{n g:Int}(hg:0<g)(hn:0<=n):n<((g+n/g)/2+1)*((g+n/g)/2+1):=by
 have hk:n<g*(n/g+1):=by
  have:=Int.lt_mul_ediv_self_add (x:=n) (k:=g) hg;rw[mul_add,Int.mul_one];exact this
 have hk0:0<=n/g:=Int.ediv_nonneg hn (by omega);generalize n/g=k at hk hk0;have h2:g+k+1<=2*((g+k)/2+1):=by omega
 have h3:=CQ (x:=g+k+1) (by omega) h2;have h4:4*(g*(k+1))<=(g+k+1)*(g+k+1):=by
  have h5:0<=(g-(k+1))*(g-(k+1)):=by
   by_cases z:0<=g-(k+1)
   .exact mul_nonneg z z
   .rw[<-neg_mul_neg];exact mul_nonneg (by omega) (by omega)
  have h6:(g+k+1)*(g+k+1)-4*(g*(k+1))=(g-(k+1))*(g-(k+1)):=by grind
  omega
 have h7:2*((g+k)/2+1)*(2*((g+k)/2+1))=4*(((g+k)/2+1)*((g+k)/2+1)):=by grind
 omega
theorem yo{n g:Int}(hg:0<g)(hn:0<=n)(ha:n<(g+1)*(g+1))(hd:¬(g+n/g)/2<g):ej n g:=by
 refine⟨by omega,?_,ha⟩;have h1:g<=n/g:=by omega
 have h2:=(Int.le_ediv_iff_mul_le hg).mp h1;exact h2
theorem Bp{n g:Int}(hg:0<g)(hn:0<n)(ha:n<(g+1)*(g+1)):0<(g+n/g)/2:=by
 have hk0:0<=n/g:=Int.ediv_nonneg (by omega) (by omega);by_cases h1:2<=g
 .omega
 .have:g=1:=by omega
  subst this;rw[Int.ediv_one];omega
theorem uc:ej 0 0:=⟨Int.le_refl _,by decide,by decide⟩
structure Ell where
 mx:Int
 my:Int
 t:Int
 q:Int
 p:Int
 reach:Int
def aO(m:Mat)(cx cy r:Int):Ell:=⟨m.a*cx+m.c*cy+m.e,m.b*cx+m.d*cy+m.f,m.a*m.d-m.b*m.c,m.b*m.b+m.d*m.d,m.a*m.b+m.c*m.d,4*(m.b*m.b+m.d*m.d)*r*r⟩
def Ci(m:Mat)(cx cy r x y:Int):Prop:=
 (m.d*(2*(x-m.e)+1)-m.c*(2*(y-m.f)+1)-2*m.det*cx)*(m.d*(2*(x-m.e)+1)-m.c*(2*(y-m.f)+1)-2*m.det*cx)
  + (m.a*(2*(y-m.f)+1)-m.b*(2*(x-m.e)+1)-2*m.det*cy)*(m.a*(2*(y-m.f)+1)-m.b*(2*(x-m.e)+1)-2*m.det*cy)<=4*(m.det*r)*(m.det*r)
def mOf(E:Ell)(y:Int):Int:=2*y+1-2*E.my
def eE(E:Ell)(y:Int):Int:=E.p*mOf E y+E.q*(2*E.mx-1)
theorem Hx{m:Mat}(h:m.det≠0):0<m.b*m.b+m.d*m.d:=by
 have hb:0<=m.b*m.b:=by
  by_cases z:0<=m.b
  .exact mul_nonneg z z
  .rw[<-neg_mul_neg];exact mul_nonneg (by omega) (by omega)
 have hd:0<=m.d*m.d:=by
  by_cases z:0<=m.d
  .exact mul_nonneg z z
  .rw[<-neg_mul_neg];exact mul_nonneg (by omega) (by omega)
 by_cases zb:m.b=0
 .by_cases zd:m.d=0
  .exfalso;apply h;unfold Mat.det;rw[zb,zd];simp
  .have:m.d*m.d≠0:=Int.mul_ne_zero zd zd;omega
 .have:m.b*m.b≠0:=Int.mul_ne_zero zb zb;omega
theorem Br{q a b:Int}(hq:0<q):a<=b↔q*a<=q*b:=by
 constructor
 .exact fun h=>Int.mul_le_mul_of_nonneg_left h (by omega)
 .exact fun h=>Int.le_of_mul_le_mul_left h hq
theorem wY{m:Mat}{cx cy r x y:Int}(h:m.det≠0):Ci m cx cy r x y↔(2*(aO m cx cy r).q*x-eE (aO m cx cy r) y)*(2*(aO m cx cy r).q*x-eE (aO m cx cy r) y) <=
  (aO m cx cy r).t*(aO m cx cy r).t*((aO m cx cy r).reach-mOf (aO m cx cy r) y*mOf (aO m cx cy r) y):=by
 unfold Ci;rw[Br (Hx h)];have e:(m.b*m.b+m.d*m.d)*(4*(m.det*r)*(m.det*r))-(m.b*m.b+m.d*m.d)*((m.d*(2*(x-m.e)+1)-m.c*(2*(y-m.f)+1)-2*m.det*cx)*(m.d*(2*(x-m.e)+1)-m.c*(2*(y-m.f)+1)-2*m.det*cx)
  + (m.a*(2*(y-m.f)+1)-m.b*(2*(x-m.e)+1)-2*m.det*cy)*(m.a*(2*(y-m.f)+1)-m.b*(2*(x-m.e)+1)-2*m.det*cy))
   = (aO m cx cy r).t*(aO m cx cy r).t*((aO m cx cy r).reach-mOf (aO m cx cy r) y*mOf (aO m cx cy r) y)-(2*(aO m cx cy r).q*x-eE (aO m cx cy r) y)*(2*(aO m cx cy r).q*x-eE (aO m cx cy r) y):=by
  unfold eE mOf aO Mat.det
  grind
 omega
theorem xW{E:Ell}{s x y:Int}(hq:0<E.q)(h:ej (E.t*E.t*(E.reach-mOf E y*mOf E y)) s):
  (2*E.q*x-eE E y)*(2*E.q*x-eE E y)<=E.t*E.t*(E.reach-mOf E y*mOf E y)↔-((s-eE E y)/(2*E.q))<=x/\x<(s+eE E y)/(2*E.q)+1:=by
 rw[jV h];have hp:0<2*E.q:=by omega
 have e1:-((s-eE E y)/(2*E.q))<=x↔-x<=(s-eE E y)/(2*E.q):=by omega
 have e2:x<(s+eE E y)/(2*E.q)+1↔x<=(s+eE E y)/(2*E.q):=by omega
 rw[e1,e2,Int.le_ediv_iff_mul_le hp,Int.le_ediv_iff_mul_le hp,Int.neg_mul,Int.mul_comm x (2*E.q)];generalize 2*E.q*x=z;omega
theorem nW{E:Ell}{F y:Int}(h:ej E.reach F):mOf E y*mOf E y<=E.reach↔-((F+1-2*E.my)/2)<=y/\y<(F-1+2*E.my)/2+1:=by
 rw[jV h];unfold mOf;omega
theorem sqn(z:Int):0<=z*z:=by
 by_cases h:0<=z
 .exact mul_nonneg h h
 .rw[<-neg_mul_neg];exact mul_nonneg (by omega) (by omega)
theorem Hu{m:Mat}{cx cy r:Int}:0<=(aO m cx cy r).reach:=by
 show 0<=4*(m.b*m.b+m.d*m.d)*r*r;rw[Int.mul_assoc];have h1:=sqn m.b;have h2:=sqn m.d;exact mul_nonneg (by omega) (sqn r)
theorem Hm{m:Mat}{cx cy r x y:Int}(h:m.det≠0)(hy:¬mOf (aO m cx cy r) y*mOf (aO m cx cy r) y<=(aO m cx cy r).reach):¬Ci m cx cy r x y:=by
 rw[wY h];intro hc;have h1:=sqn (2*(aO m cx cy r).q*x-eE (aO m cx cy r) y);have ht:(aO m cx cy r).t≠0:=h;have h2:0<(aO m cx cy r).t*(aO m cx cy r).t:=by
  have:=sqn (aO m cx cy r).t;have:(aO m cx cy r).t*(aO m cx cy r).t≠0:=Int.mul_ne_zero ht ht;omega
 have h3:(aO m cx cy r).t*(aO m cx cy r).t*((aO m cx cy r).reach-mOf (aO m cx cy r) y*mOf (aO m cx cy r) y)<0:=Int.mul_neg_of_pos_of_neg h2 (by omega);omega
theorem FP{m:Mat}{cx cy r W lo hi F:Int}{s:Int->Int}(hW:0<=W)(hd:m.det≠0)(hF:ej (aO m cx cy r).reach F)
  (hs:∀y,mOf (aO m cx cy r) y*mOf (aO m cx cy r) y<=(aO m cx cy r).reach->ej ((aO m cx cy r).t*(aO m cx cy r).t*((aO m cx cy r).reach-mOf (aO m cx cy r) y*mOf (aO m cx cy r) y)) (s y)):
  kX W lo hi (Ci m cx cy r) ((rng (max lo (-((F+1-2*(aO m cx cy r).my)/2))) (min hi ((F-1+2*(aO m cx cy r).my)/2+1))).flatMap
   (jt W (fun y=>max 0 (-((s y-eE (aO m cx cy r) y)/(2*(aO m cx cy r).q)))) fun y=>min W ((s y+eE (aO m cx cy r) y)/(2*(aO m cx cy r).q)+1))):=by
 have hq:0<(aO m cx cy r).q:=Hx hd;generalize hE:aO m cx cy r=E at *;constructor
 .refine⟨max lo (-((F+1-2*E.my)/2))*(W+1),?_⟩;by_cases hh:max lo (-((F+1-2*E.my)/2))<=min hi ((F-1+2*E.my)/2+1)
  .obtain⟨n,e⟩:∃n:Nat,min hi ((F-1+2*E.my)/2+1)=max lo (-((F+1-2*E.my)/2))+n:=⟨(min hi ((F-1+2*E.my)/2+1)-max lo (-((F+1-2*E.my)/2))).toNat,by omega⟩;rw[e];exact t9 hW (fun r=>by show(0:Int)<=max 0 _;omega) (fun r=>by show min W _<=W;omega)
  .rw[i0 (by omega)]
   trivial
 .intro t;rw[Hn];constructor
  .rintro⟨y,x,h1,h2,h3,h4,rfl⟩;have h3':max 0 (-((s y-eE E y)/(2*E.q)))<=x:=h3;have h4':x<min W ((s y+eE E y)/(2*E.q)+1):=h4;have hm:mOf E y*mOf E y<=E.reach:=(nW hF).mpr ⟨by omega,by omega⟩;refine⟨x,y,rfl,by omega,by omega,by omega,by omega,?_⟩;rw[wY hd,hE,xW hq (hs y hm)];exact⟨by omega,by omega⟩
  .rintro⟨x,y,rfl,h1,h2,h3,h4,hc⟩;have hm:mOf E y*mOf E y<=E.reach:=by
    by_cases z:mOf E y*mOf E y<=E.reach
    .exact z
    .exact(Hm (m:=m) (cx:=cx) (cy:=cy) (r:=r) (x:=x) (y:=y) hd (by rw[hE];exact z) hc).elim
   have hr:=(nW hF).mp hm;rw[wY hd,hE,xW hq (hs y hm)]at hc;exact⟨y,x,by omega,by omega,by show max 0 _<=x;omega,by show x<min W _;omega,rfl⟩
theorem we{W lo hi:Int}{c:Int->Int->Prop}(h:∀x y,¬c x y):kX W lo hi c []:=⟨⟨0,trivial⟩,fun t=>⟨fun⟨_,hs,_⟩=>(by cases hs),fun⟨x,y,_,_,_,_,_,hc⟩=>(h x y hc).elim⟩⟩
def wZ(s:Shape)(x y:Int):Prop:=match s.kind with
 |.lines ls=>(if s.odd=true then winding s.mat ls (ctr x y)%2 != 0 else winding s.mat ls (ctr x y) != 0)=true
 |.circle cx cy r=>s.mat.det≠0/\r≠0/\Ci s.mat cx cy r x y
theorem FI(s:Shape)(x y:Nat):s.covers x y=true↔wZ s x y:=by
 unfold Shape.covers wZ;cases hk:s.kind with
 |lines ls=>
  have e:(((2*(x:Int)+1)*(UNIT/2),(2*(y:Int)+1)*(UNIT/2)):P)=ctr x y:=by
   unfold ctr UNIT;refine Prod.ext ?_ ?_<;>(show _=_;dsimp only;omega)
  simp only[e]
 |circle cx cy r=>
  unfold Ci;simp only[bne_iff_ne,ne_eq,Bool.and_eq_true,decide_eq_true_eq]
def l9(p:P):Prop:=p.1.natAbs<=268435456/\p.2.natAbs<=268435456
def sO:Kind->Prop
 |.lines ls=>∀l∈ls,∀p∈l,l9 p
 |.circle cx cy r=>cx.natAbs<=32767/\cy.natAbs<=32767/\r.natAbs<=32767
theorem oR{b:B}{z:Int}{r:B}(h:numberAt b=some (z,r)):z.natAbs<=32767:=by
 unfold numberAt at h;dsimp only at h;generalize (if (b.head?==some 45||b.head?==some 43)=true then b.drop 1 else b)=rr at h;split at h
 .cases h
 .rename_i hn;rw[not_or,not_or]at hn;have h1:=hn.2.2;unfold MOST at h1;simp only[Option.some.injEq,Prod.mk.injEq]at h;rw[<-h.1];split<;>omega
theorem nT{b:B}{z:Int}(h:single b=some z):z.natAbs<=32767:=by
 unfold single at h;cases e:numberAt b with
 |none=>rw[e]at h;cases h
 |some x=>
  rw[e,bind_some]at h;split at h
  .cases h;exact oR (r:=x.2) (by rw[e])
  .cases h
theorem gI{as:List (B×B)}{s:String}{d:Option Int}{z:Int}(hd:∀y,d=some y->y.natAbs<=32767)(h:numIn as s d=some z):z.natAbs<=32767:=by
 unfold numIn at h;split at h
 .exact nT h
 .exact hd z h
theorem mI:∀{f:Nat}{b:B}{x:List Int×B},numbersAt f b=some x->∀z∈x.1,z.natAbs<=32767
 |0,_,_,h,_,_=>by cases h
 |f+1,b,x,h,z,hz=>by
  unfold numbersAt at h;cases e:numberAt b with
  |none=>rw[e]at h;cases h
  |some y=>
   rw[e,bind_some]at h;have hy:=oR (z:=y.1) (r:=y.2) (by rw[e]);dsimp only at h;split at h
   .cases e2:between y.2 with
    |none=>rw[e2]at h;cases h
    |some r=>
     rw[e2,bind_some]at h;cases e3:numbersAt f r with
     |none=>rw[e3]at h;cases h
     |some v=>
      rw[e3]at h;cases h;rw[mem_cons]at hz;rcases hz with rfl|hz
      .exact hy
      .exact mI e3 z hz
   .cases h;rw[mem_singleton]at hz;subst hz;exact hy
theorem RK{b:B}{l:List Int}(h:row b=some l):∀z∈l,z.natAbs<=32767:=by
 unfold row at h;dsimp only at h;split at h
 .cases h;intro z hz;cases hz
 .cases e:numbersAt (b.length+1) (skip b)with
  |none=>rw[e]at h;cases h
  |some x=>
   rw[e,bind_some]at h;split at h
   .cases h;exact mI e
   .cases h
theorem jH{x y:Int}(hx:x.natAbs<=65536)(hy:y.natAbs<=65536):l9 (whole x y):=by
 unfold whole l9 UNIT;dsimp only;omega
theorem yg:∀{l:List Int}{ps:List P},pairs l=some ps->(∀z∈l,z.natAbs<=32767)->∀p∈ps,l9 p
 |[],_,h,_,p,hp=>by cases h;cases hp
 |[_],_,h,_,_,_=>by cases h
 |x::y::r,ps,h,hl,p,hp=>by
  unfold pairs at h;cases e:pairs r with
  |none=>rw[e]at h;cases h
  |some q=>
   rw[e]at h;cases h;rw[mem_cons]at hp;rcases hp with rfl|hp
   .have h1:=hl x (by simp);have h2:=hl y (by simp);exact jH (by omega) (by omega)
   .exact yg e (fun z hz=>hl z (by simp[hz])) p hp
structure gm(p:Pen):Prop where
 x:p.x.natAbs<=65536
 y:p.y.natAbs<=65536
 sx:p.sx.natAbs<=65536
 sy:p.sy.natAbs<=65536
 line:∀q∈p.line,l9 q
 done:∀l∈p.done,∀q∈l,l9 q
theorem vB{p:Pen}(h:gm p):∀l∈(if p.line=[]then p.done else p.done++[p.line.reverse]),∀q∈l,l9 q:=by
 intro l hl;split at hl
 .exact h.done l hl
 .rw[mem_append,mem_singleton]at hl;rcases hl with hl|rfl
  .exact h.done l hl
  .intro q hq;exact h.line q (mem_reverse.mp hq)
theorem bX{z:Int}(h:near z=true):z.natAbs<=65536:=by unfold near at h;exact of_decide_eq_true h
theorem Pe{p:Pen}(h:gm p):gm p.on:=by
 unfold Pen.on;split
 .exact⟨h.x,h.y,h.x,h.y,fun q hq=>by rw[mem_singleton]at hq;subst hq;exact jH h.x h.y,h.done⟩
 .exact h
theorem Ga{p:Pen}{x y:Int}(h:gm p)(hx:x.natAbs<=65536)(hy:y.natAbs<=65536):gm (p.to x y):=by
 have o:=Pe h;exact⟨hx,hy,o.sx,o.sy,fun q hq=>by
  rcases mem_cons.mp hq with rfl|hq
  .exact jH hx hy
  .exact o.line q hq,o.done⟩
theorem Gu{p:Pen}{x y:Int}(h:gm p)(hx:x.natAbs<=65536)(hy:y.natAbs<=65536):gm (p.start x y):=
 ⟨hx,hy,hx,hy,fun q hq=>by rw[mem_singleton.mp hq];exact jH hx hy,vB h⟩
theorem Ai{p:Pen}{x y:Int}{w:Int->P}(h:gm p)(hx:x.natAbs<=65536)(hy:y.natAbs<=65536)(hw:∀k:Nat,k<16->l9 (w ((k:Int)+1))):gm (p.along x y w):=by
 have o:=Pe h;refine⟨hx,hy,o.sx,o.sy,fun q hq=>?_,o.done⟩;rcases mem_append.mp hq with hq|hq
 .rw[mem_reverse,mem_map]at hq;obtain⟨k,hk,rfl⟩:=hq;exact hw k (mem_range.mp hk)
 .exact o.line q hq
theorem wb{w a:Int}(hw:0<=w)(ha:a.natAbs<=65536):-(w*65536)<=w*a/\w*a<=w*65536:=by
 have h1:=Int.mul_le_mul_of_nonneg_left (show a<=65536 by omega) hw;have h2:=Int.mul_le_mul_of_nonneg_left (show -65536<=a by omega) hw;rw[Int.mul_neg]at h2;exact⟨h2,h1⟩
theorem wts:∀k:Nat,k<16->(16-((k:Int)+1))*(16-((k:Int)+1))+2*((k:Int)+1)*(16-((k:Int)+1))+((k:Int)+1)*((k:Int)+1)=256/\
  (16-((k:Int)+1))*(16-((k:Int)+1))*(16-((k:Int)+1))+3*((k:Int)+1)*(16-((k:Int)+1))*(16-((k:Int)+1))+3*((k:Int)+1)*((k:Int)+1)*(16-((k:Int)+1))+((k:Int)+1)*((k:Int)+1)*((k:Int)+1)=4096/\0<=(16-((k:Int)+1)):=by decide
theorem Xo{p q r x y z:Int}(e:p+q+r=256)(h1:-(p*65536)<=x/\x<=p*65536)(h2:-(q*65536)<=y/\y<=q*65536)(h3:-(r*65536)<=z/\z<=r*65536):(16*(x+y+z)).natAbs<=268435456:=by omega
theorem Xn{p q r s x y z t:Int}(e:p+q+r+s=4096)(h1:-(p*65536)<=x/\x<=p*65536)(h2:-(q*65536)<=y/\y<=q*65536)(h3:-(r*65536)<=z/\z<=r*65536)(h4:-(s*65536)<=t/\t<=s*65536):(x+y+z+t).natAbs<=268435456:=by omega
theorem Dc{a b d:Int}(ha:a.natAbs<=65536)(hb:b.natAbs<=65536)(hd:d.natAbs<=65536){k:Nat}(hk:k<16):
  (16*((16-((k:Int)+1))*(16-((k:Int)+1))*a+2*((k:Int)+1)*(16-((k:Int)+1))*b+((k:Int)+1)*((k:Int)+1)*d)).natAbs<=268435456:=by
 obtain⟨e,_,h0⟩:=wts k hk;have h1:0<=(k:Int)+1:=Int.le_of_lt (Int.lt_add_one_of_le (natCast_nonneg k));exact Xo e (wb (mul_nonneg h0 h0) ha) (wb (mul_nonneg (mul_nonneg (by decide) h1) h0) hb) (wb (mul_nonneg h1 h1) hd)
theorem DF{a b d e:Int}(ha:a.natAbs<=65536)(hb:b.natAbs<=65536)(hd:d.natAbs<=65536)(he:e.natAbs<=65536){k:Nat}(hk:k<16):
  ((16-((k:Int)+1))*(16-((k:Int)+1))*(16-((k:Int)+1))*a+3*((k:Int)+1)*(16-((k:Int)+1))*(16-((k:Int)+1))*b+3*((k:Int)+1)*((k:Int)+1)*(16-((k:Int)+1))*d+((k:Int)+1)*((k:Int)+1)*((k:Int)+1)*e).natAbs<=268435456:=by
 obtain⟨_,w,h0⟩:=wts k hk;have h1:0<=(k:Int)+1:=Int.le_of_lt (Int.lt_add_one_of_le (natCast_nonneg k));have t:(0:Int)<=3:=by decide
 exact Xn w (wb (mul_nonneg (mul_nonneg h0 h0) h0) ha) (wb (mul_nonneg (mul_nonneg (mul_nonneg t h1) h0) h0) hb) (wb (mul_nonneg (mul_nonneg (mul_nonneg t h1) h1) h0) hd) (wb (mul_nonneg (mul_nonneg h1 h1) h1) he)
theorem LN{p q:Pen}{c:Nat}{rel:Bool}{l:List Int}(h:gm p)(hs:p.step c rel l=some q):gm q:=by
 unfold Pen.step at hs;dsimp only at hs;cases rel<;>simp only[Bool.false_eq_true,if_false,if_true]at hs
 all_goals
  split at hs
  .split at hs
   .split at hs
    .rename_i h2;cases hs;simp only[all_cons,all_nil,Bool.and_true]at h2;exact Ga h (bX h2) h.y
    .cases hs
   .split at hs
    .split at hs
     .rename_i h2;cases hs;simp only[all_cons,all_nil,Bool.and_true]at h2;exact Ga h h.x (bX h2)
     .cases hs
    .cases hs
  .split at hs
   .split at hs
    .rename_i h2;cases hs;simp only[all_cons,all_nil,Bool.and_true,Bool.and_eq_true]at h2;exact Gu h (bX h2.1) (bX h2.2)
    .cases hs
   .split at hs
    .split at hs
     .rename_i h2;cases hs;simp only[all_cons,all_nil,Bool.and_true,Bool.and_eq_true]at h2;exact Ga h (bX h2.1) (bX h2.2)
     .cases hs
    .cases hs
  .split at hs
   .split at hs
    .rename_i h2;cases hs;simp only[all_cons,all_nil,Bool.and_true,Bool.and_eq_true]at h2;exact Ai h (bX h2.2.2.1) (bX h2.2.2.2) fun k hk=>⟨Dc h.x (bX h2.1) (bX h2.2.2.1) hk,Dc h.y (bX h2.2.1) (bX h2.2.2.2) hk⟩
    .cases hs
   .cases hs
  .split at hs
   .split at hs
    .rename_i h2;cases hs;simp only[all_cons,all_nil,Bool.and_true,Bool.and_eq_true]at h2;exact Ai h (bX h2.2.2.2.2.1) (bX h2.2.2.2.2.2) fun k hk=>⟨DF h.x (bX h2.1) (bX h2.2.2.1) (bX h2.2.2.2.2.1) hk,DF h.y (bX h2.2.1) (bX h2.2.2.2.1) (bX h2.2.2.2.2.2) hk⟩
    .cases hs
   .cases hs
  .cases hs
theorem C7:∀{f:Nat}{p q:Pen}{c:Nat}{rel:Bool}{l:List Int},gm p->Pen.rows f p c rel l=some q->gm q
 |0,_,_,_,_,_,_,h=>by cases h
 |f+1,p,q,c,rel,l,hp,h=>by
  unfold Pen.rows at h;split at h
  .cases h;exact hp
  .split at h
   .cases h
   .cases e:p.step c rel (l.take (arity c))with
    |none=>rw[e]at h;cases h
    |some r=>rw[e,bind_some]at h;exact C7 (LN hp e) h
theorem lY:∀{f:Nat}{p q:Pen}{b:B},gm p->Pen.letters f p b=some q->gm q
 |0,_,_,_,_,h=>by cases h
 |f+1,p,q,b,hp,h=>by
  unfold Pen.letters at h;split at h
  .cases h;exact hp
  .rename_i c r _;dsimp only at h;generalize (if decide (97<=c)=true then c-32 else c)=g at h;split at h
   .refine lY (f:=f) (p:={p with x:=p.sx,y:=p.sy,line:=[],done:=if p.line=[]then p.done else p.done++[p.line.reverse]}) ?_ h;exact⟨hp.sx,hp.sy,hp.sx,hp.sy,fun q hq=>(by cases hq),vB hp⟩
   .split at h
    .cases h
    .cases e:numbersAt (r.length+1) (skip r)with
     |none=>rw[e]at h;cases h
     |some x=>
      rw[e,bind_some]at h;cases e2:Pen.rows (x.1.length+1) p g (decide (97<=c)) x.1 with
      |none=>rw[e2]at h;cases h
      |some q'=>rw[e2,bind_some]at h;exact lY (C7 hp e2) h
theorem RT:gm pen:=⟨by decide,by decide,by decide,by decide,fun q hq=>(by cases hq),fun q hq=>(by cases hq)⟩
theorem Md{b:B}{ls:Lines}(h:pathOf b=some ls):∀l∈ls,∀p∈l,l9 p:=by
 unfold pathOf at h;split at h
 .cases h;intro l hl;cases hl
 .split at h
  .cases e:pen.letters (b.length+1) b with
   |none=>rw[e]at h;cases h
   |some p=>
    rw[e]at h;cases h;exact vB (lY RT e)
  .cases h
theorem aS{I L:Type}{o:Option I}{f:I->Option L}{y:L}(h:o.bind f=some y):∃x,o=some x/\f x=some y:=by
 cases o with
 |none=>cases h
 |some x=>exact⟨x,rfl,h⟩
theorem MH{n:B}{as:List (B×B)}{k:Kind}(h:kindOf n as=some k):sO k:=by
 have d0:∀y:Int,some (0:Int)=some y->y.natAbs<=32767:=fun y e=>by cases e;decide
 have dn:∀y:Int,(none:Option Int)=some y->y.natAbs<=32767:=fun y e=>by cases e
 unfold kindOf at h;split at h
 .obtain⟨x,hx,h⟩:=aS h;obtain⟨y,hy,h⟩:=aS h;obtain⟨w,hw,h⟩:=aS h;obtain⟨z,hz,h⟩:=aS h;have h1:=gI d0 hx;have h2:=gI d0 hy;have h3:=gI dn hw;have h4:=gI dn hz;split at h
  .cases h
  .cases h;intro l hl p hp;rw[mem_singleton]at hl;subst hl;simp only[mem_cons,not_mem_nil,or_false]at hp;rcases hp with rfl|rfl|rfl|rfl<;>exact jH (by omega) (by omega)
 .split at h
  .obtain⟨x,hx,h⟩:=aS h;obtain⟨y,hy,h⟩:=aS h;obtain⟨r,hr,h⟩:=aS h;split at h
   .cases h
   .cases h;exact⟨gI d0 hx,gI d0 hy,gI dn hr⟩
  .split at h
   .obtain⟨v,hv,h⟩:=aS h;obtain⟨l,hl,h⟩:=aS h;obtain⟨ps,hp,h⟩:=aS h;cases h;intro l' hl';rw[mem_singleton]at hl';subst hl';exact yg hp (RK hl)
   .split at h
    .obtain⟨v,hv,h⟩:=aS h;obtain⟨l,hl,h⟩:=aS h;cases h;exact Md hl
    .cases h
mutual
theorem Ek:∀(k:Nat)(s:Style)(e:El)(l:List Shape),shapes k s e=some l->∀sh∈l,sO sh.kind
 |k,s,.mk n as ks,l,h=>by
  unfold shapes at h;split at h
  .cases k with
   |zero=>cases h
   |succ k=>
    obtain⟨t,_,h⟩:=aS h;exact jr k t ks l h
  .obtain⟨q,hq,h⟩:=aS h;obtain⟨t,ht,h⟩:=aS h;split at h
   .cases h;intro sh hs;rw[mem_singleton]at hs;subst hs;exact MH hq
   .cases h
theorem jr:∀(k:Nat)(s:Style)(es:List El)(l:List Shape),allShapes k s es=some l->∀sh∈l,sO sh.kind
 |k,s,[],l,h=>by
  unfold allShapes at h;cases h;intro sh hs;cases hs
 |k,s,e::r,l,h=>by
  unfold allShapes at h;obtain⟨x,hx,h⟩:=aS h;cases e2:allShapes k s r with
  |none=>rw[e2]at h;cases h
  |some y=>
   rw[e2]at h;cases h;intro sh hs;rw[mem_append]at hs;rcases hs with hs|hs
   .exact Ek k s e x hx sh hs
   .exact jr k s r y e2 sh hs
end
structure Aj(p:Picture):Prop where
 w:1<=p.width/\p.width<=1024
 h:1<=p.height/\p.height<=1024
 k:∀s∈p.shapes,sO s.kind
theorem C2{as:List (B×B)}{s:String}{n:Nat}(h:side as s=some n):1<=n/\n<=1024:=by
 unfold side at h;obtain⟨z,_,h⟩:=aS h;split at h
 .cases h;omega
 .cases h
theorem RR{b:B}{p:Picture}(h:pic b=some p):Aj p:=by
 rw[<-qK]at h;unfold picture at h;obtain⟨e,_,h⟩:=aS h;cases e with
 |mk n as ks=>
  dsimp only at h;split at h
  .cases h
  .obtain⟨w,hw,h⟩:=aS h;obtain⟨y,hy,h⟩:=aS h;obtain⟨s,hs,h⟩:=aS h;cases e2:allShapes 17 s ks with
   |none=>rw[e2]at h;cases h
   |some l=>
    rw[e2]at h;cases h;exact⟨C2 hw,C2 hy,jr _ _ _ _ e2⟩
def Ld(n:Nat)(L:Nat->Nat)(d:Nat)(P:Nat->Bool):Prop:=∀i,d<=i->i<n->i<=L i/\L i<n/\(L i=i->P i=false)/\∀k,i<=k->k<L i->P k=true
def put{I:Type}(f:Nat->I)(e:Nat)(v:I)(k:Nat):I:=if k=e then v else f k
theorem lR{I:Type}{f:Nat->I}{e:Nat}{v:I}:put f e v e=v:=if_pos rfl
theorem lQ{I:Type}{f:Nat->I}{e k:Nat}{v:I}(h:k≠e):put f e v k=f k:=if_neg h
theorem Ld.up{n d e:Nat}{L:Nat->Nat}{P:Nat->Bool}(h:Ld n L d P)(hd:d<=e):Ld n L e P:=fun i hi=>h i (by lia)
theorem Ld.Pu{n d e:Nat}{L:Nat->Nat}{P:Nat->Bool}(h:Ld n L d P)(hd:d<=e)(he:e<n)(hn:L e≠e):Ld n (put L e (L (L e))) d P:=fun i hi hin=>by
 by_cases q:i=e
 .subst q;obtain⟨a1,a2,a3,a4⟩:=h i hi hin;obtain⟨b1,b2,b3,b4⟩:=h (L i) (by lia) a2;rw[lR];refine⟨by lia,b2,fun z=>by lia,fun k k1 k2=>?_⟩;by_cases z:k<L i
  .exact a4 k k1 z
  .exact b4 k (by lia) k2
 .rw[lQ q];exact h i hi hin
theorem Ld.Xs{n d e:Nat}{L:Nat->Nat}{P:Nat->Bool}(h:Ld n L d P)(hd:d<=e)(he:e<n)(hn:L e≠e):e<L (L e)/\L (L e)<n/\∀k,e<=k->k<L (L e)->P k=true:=by
 have z:=h.Pu hd he hn e hd he;rw[lR]at z;obtain⟨a1,a2,a3,a4⟩:=h e hd he;obtain⟨b1,_⟩:=h (L e) (by lia) a2;exact⟨by lia,z.2.1,z.2.2.2⟩
def sp1(P:Nat->Bool)(s0 s1 k:Nat):Bool:=P k||(decide (s0<=k)&&decide (k<s1))
theorem qm{P:Nat->Bool}{s0 s1 k:Nat}:sp1 P s0 s1 k=true↔P k=true\/(s0<=k/\k<s1):=by
 unfold sp1;rw[Bool.or_eq_true,Bool.and_eq_true,decide_eq_true_eq,decide_eq_true_eq]
theorem Gw{P:Nat->Bool}{s0 s1 k:Nat}:sp1 P s0 s1 k=false↔P k=false/\¬(s0<=k/\k<s1):=by
 rw[<-Bool.not_eq_true,qm,not_or,Bool.not_eq_true]
structure pI(n:Nat)(L:Nat->Nat)(P:Nat->Bool)(s0 s1 e:Nat):Prop where
 a:∀i,i<n->i<=L i/\L i<n/\(∀k,i<=k->k<L i->sp1 P s0 s1 k=true)/\(L i=i->i<e->sp1 P s0 s1 i=false)
 b:Ld n L e P
theorem pI.start{n s0 s1 e:Nat}{L L':Nat->Nat}{P:Nat->Bool}(h:Ld n L 0 P)(h':Ld n L' s0 P)(hl:∀i,i<s0->L' i=L i)(he:s0<=e)(hp:∀k,s0<=k->k<e->P k=true):pI n L' P s0 s1 e:=by
 refine⟨fun i hi=>?_,h'.up he⟩;by_cases q:i<s0
 .rw[hl i q];obtain⟨a1,a2,a3,a4⟩:=h i (zero_le _) hi;exact⟨a1,a2,fun k k1 k2=>qm.mpr (.inl (a4 k k1 k2)),fun z _=>Gw.mpr ⟨a3 z,by lia⟩⟩
 .obtain⟨a1,a2,a3,a4⟩:=h' i (by lia) hi;refine⟨a1,a2,fun k k1 k2=>qm.mpr (.inl (a4 k k1 k2)),fun z z2=>?_⟩;have:=a3 z;rw[hp i (by lia) z2]at this;cases this
theorem pI.pre{n s0 s1 e:Nat}{L:Nat->Nat}{P:Nat->Bool}(h:pI n L P s0 s1 e)(v:Nat):Ld n (put L e v) (e+1) P:=fun i hi hin=>by
 rw[lQ (by lia)];exact h.b i (by lia) hin
theorem pI.step{n s0 s1 e r:Nat}{L L':Nat->Nat}{P:Nat->Bool}(h:pI n L P s0 s1 e)(he:s0<=e)(h1:e<s1)(hs:s1<n)(hl:∀i,i<e+1->L' i=put L e s1 i)(h':Ld n L' (e+1) P)(hr:e+1<=r)(hp:∀k,e+1<=k->k<r->P k=true):pI n L' P s0 s1 r:=by
 refine⟨fun i hi=>?_,h'.up hr⟩;by_cases q:i<e+1
 .rw[hl i q];by_cases q2:i=e
  .subst q2;rw[lR];exact⟨by lia,hs,fun k k1 k2=>qm.mpr (.inr ⟨by lia,k2⟩),fun z=>by lia⟩
  .rw[lQ q2];obtain⟨a1,a2,a3,a4⟩:=h.a i hi;exact⟨a1,a2,a3,fun z _=>a4 z (by lia)⟩
 .obtain⟨a1,a2,a3,a4⟩:=h' i (by lia) hi;refine⟨a1,a2,fun k k1 k2=>qm.mpr (.inl (a4 k k1 k2)),fun z z2=>?_⟩;have:=a3 z;rw[hp i (by lia) z2]at this;cases this
theorem pI.done{n s0 s1 e:Nat}{L:Nat->Nat}{P:Nat->Bool}(h:pI n L P s0 s1 e)(he:s1<=e):Ld n L 0 (sp1 P s0 s1):=fun i _ hi=>by
 obtain⟨a1,a2,a3,a4⟩:=h.a i hi;refine⟨a1,a2,fun z=>?_,a3⟩;by_cases q:i<e
 .exact a4 z q
 .exact Gw.mpr ⟨(h.b i (by lia) hi).2.2.1 z,by lia⟩
def col(C:Nat->Int)(P:Nat->Bool)(s0 s1 e:Nat)(c:Int)(k:Nat):Int:=if s0<=k/\k<e/\k<s1/\P k=false then c else C k
theorem FL{C:Nat->Int}{P:Nat->Bool}{s0 s1 e:Nat}{c:Int}(hp:∀k,s0<=k->k<e->P k=true):C=col C P s0 s1 e c:=by
 funext k
 unfold col;rw[if_neg];rintro⟨h1,h2,_,h3⟩;rw[hp k h1 h2]at h3;cases h3
theorem Jy{C:Nat->Int}{P:Nat->Bool}{s0 s1 e r:Nat}{c:Int}(he:s0<=e)(h1:e<s1)(h0:P e=false)(hr:e+1<=r)(hp:∀k,e+1<=k->k<r->P k=true):put (col C P s0 s1 e c) e c=col C P s0 s1 r c:=by
 funext k
 by_cases q:k=e
 .subst q;rw[lR];unfold col;rw[if_pos ⟨he,hr,h1,h0⟩]
 .rw[lQ q];unfold col;by_cases q2:k<e
  .by_cases z:s0<=k/\k<s1/\P k=false
   .rw[if_pos ⟨z.1,q2,z.2⟩,if_pos ⟨z.1,by lia,z.2⟩]
   .rw[if_neg fun y=>z ⟨y.1,y.2.2⟩,if_neg fun y=>z ⟨y.1,y.2.2⟩]
  .rw[if_neg (by lia),if_neg];rintro⟨_,h2,_,h3⟩;rw[hp k (by lia) h2]at h3;cases h3
def cols(C:Nat->Int)(P:Nat->Bool)(sp:List (Int×Int))(c:Int)(k:Nat):Int:=if P k=false/\inB sp k=true then c else C k
def pnt(P:Nat->Bool)(sp:List (Int×Int))(k:Nat):Bool:=P k||inB sp k
theorem yG{sp:List (Int×Int)}{z:Int×Int}{k:Nat}(h0:0<=z.1)(h1:0<=z.2):inB (sp++[z]) k=(inB sp k||(decide (z.1.toNat<=k)&&decide (k<z.2.toNat))):=by
 rw[Bool.eq_iff_iff,wO,Bool.or_eq_true,wO,Bool.and_eq_true,decide_eq_true_eq,decide_eq_true_eq];unfold pG;constructor
 .rintro⟨s,hs,h2,h3⟩;rcases mem_append.mp hs with hs|hs
  .exact .inl ⟨s,hs,h2,h3⟩
  .rw[mem_singleton.mp hs]at h2 h3;exact .inr ⟨by lia,by lia⟩
 .rintro(⟨s,hs,h2⟩|⟨h2,h3⟩)
  .exact⟨s,mem_append_left _ hs,h2⟩
  .exact⟨z,mem_append_right _ (mem_singleton.mpr rfl),by lia,by lia⟩
theorem HD{P:Nat->Bool}{sp:List (Int×Int)}{z:Int×Int}(h0:0<=z.1)(h1:0<=z.2):sp1 (pnt P sp) z.1.toNat z.2.toNat=pnt P (sp++[z]):=by
 funext k
 unfold sp1 pnt;rw[yG h0 h1,Bool.or_assoc]
theorem FK{C:Nat->Int}{P:Nat->Bool}{sp:List (Int×Int)}{z:Int×Int}{c:Int}{e:Nat}(h0:0<=z.1)(h1:0<=z.2)(he:z.2.toNat<=e):col (cols C P sp c) (pnt P sp) z.1.toNat z.2.toNat e c=cols C P (sp++[z]) c:=by
 funext k
 unfold col cols pnt;rw[yG h0 h1];cases hP:P k with
 |true=>rw[if_neg (by simp),if_neg (by simp),if_neg (by simp)]
 |false=>
  cases hI:inB sp k with
  |true=>rw[if_neg (by simp),if_pos (by simp),if_pos (by simp)]
  |false=>
   by_cases q:z.1.toNat<=k/\k<z.2.toNat
   .rw[if_pos ⟨q.1,by lia,q.2,rfl⟩,if_pos ⟨rfl,by simp[q.1,q.2]⟩]
   .rw[if_neg fun y=>q ⟨y.1,y.2.2.1⟩,if_neg (by simp),if_neg];intro y;have y:=y.2;simp at y;exact q ⟨by lia,by lia⟩
theorem Ld.congr{n d:Nat}{L:Nat->Nat}{P P':Nat->Bool}(e:∀k,k<n->P k=P' k)(h:Ld n L d P):Ld n L d P':=fun i hi hin=>by
 obtain⟨a1,a2,a3,a4⟩:=h i hi hin;exact⟨a1,a2,fun z=>by rw[<-e i hin];exact a3 z,fun k k1 k2=>by rw[<-e k (by lia)];exact a4 k k1 k2⟩
def jZ(x y:Nat)(s:Shape):Bool:=s.fill.isSome&&s.covers x y
def oY(T:List Shape)(x y:Nat):Nat:=((T.reverse.find? (jZ x y)).bind fun s=>s.fill).getD 0xFFFFFF
def ptd(W:Nat)(T:List Shape)(k:Nat):Bool:=decide (k%(W+1)<W)&&T.any (jZ (k%(W+1)) (k/(W+1)))
def nc(W:Nat)(T:List Shape)(k:Nat):Int:=if k%(W+1)<W then(oY T (k%(W+1)) (k/(W+1)):Int)else 16777215
theorem any_none{T:List Shape}{x y:Nat}(h:T.any (jZ x y)=false):T.reverse.find? (jZ x y)=none:=by
 rw[List.find?_eq_none];intro s hs;rw[mem_reverse]at hs;rw[any_eq_false]at h;exact h s hs
theorem r8{s:Shape}{T:List Shape}{x y:Nat}:oY (s::T) x y=if T.any (jZ x y)=true then oY T x y else if jZ x y s=true then s.fill.getD 0xFFFFFF else 0xFFFFFF:=by
 unfold oY;rw[List.reverse_cons,List.find?_append];by_cases h:T.any (jZ x y)=true
 .rw[if_pos h];obtain⟨z,hz,hz2⟩:=List.any_eq_true.mp h;cases q:T.reverse.find? (jZ x y)with
  |none=>
   rw[List.find?_eq_none]at q;exact absurd hz2 (q z (mem_reverse.mpr hz))
  |some v=>rfl
 .rw[if_neg h,any_none (by simpa using h)];by_cases h2:jZ x y s=true
  .rw[if_pos h2,none_or,List.find?_cons_of_pos h2];rfl
  .rw[if_neg h2,none_or,List.find?_cons_of_neg h2];rfl
theorem Dv{W h:Nat}{s:Shape}{sp:List (Int×Int)}{k:Nat}(hs:kX W 0 h (wZ s) sp)(hk:k<h*(W+1)):inB sp k=(decide (k%(W+1)<W)&&s.covers (k%(W+1)) (k/(W+1))):=by
 rw[Bool.eq_iff_iff,wO,hs.2,Bool.and_eq_true,decide_eq_true_eq,FI];have hd:k/(W+1)<h:=Nat.div_lt_of_lt_mul (by rw[mul_comm];exact hk);have ek:(k:Int)=((k/(W+1):Nat):Int)*((W:Int)+1)+((k%(W+1):Nat):Int):=by
  have:=Nat.div_add_mod k (W+1);rw[mul_comm]at this
  exact_mod_cast this.symm
 have hm:k%(W+1)<W+1:=Nat.mod_lt _ (by lia);constructor
 .rintro⟨x,y,e,h1,h2,h3,h4,h5⟩;obtain⟨rfl,rfl⟩:=Hk h1 (by lia) (natCast_nonneg _) (by lia) (e.symm.trans ek);exact⟨by lia,h5⟩
 .rintro⟨h1,h2⟩;exact⟨_,_,ek,natCast_nonneg _,by lia,natCast_nonneg _,by lia,h2⟩
theorem HB{W h:Nat}{s:Shape}{T:List Shape}{sp:List (Int×Int)}{k:Nat}(hs:kX W 0 h (wZ s) sp)(hf:s.fill.isSome=true)(hk:k<h*(W+1)):pnt (ptd W T) sp k=ptd W (s::T) k:=by
 unfold pnt ptd;rw[Dv hs hk,any_cons];unfold jZ;rw[hf,Bool.true_and,<-Bool.and_or_distrib_left,Bool.or_comm]
theorem HA{W:Nat}{s:Shape}{T:List Shape}(hf:s.fill.isSome=false):ptd W (s::T)=ptd W T:=by
 funext k
 unfold ptd;rw[any_cons];have:jZ (k%(W+1)) (k/(W+1)) s=false:=by unfold jZ;rw[hf];rfl
 rw[this,Bool.false_or]
theorem FN{W:Nat}{s:Shape}{T:List Shape}(hf:s.fill.isSome=false):nc W (s::T)=nc W T:=by
 funext k
 have:∀x y,jZ x y s=false:=fun x y=>by unfold jZ;rw[hf];rfl
 unfold nc;rw[r8,this,if_neg Bool.false_ne_true];split
 .split
  .rfl
  .rename_i h;unfold oY;rw[any_none (by simpa using h)];rfl
 .rfl
theorem FO{W h:Nat}{s:Shape}{T:List Shape}{sp:List (Int×Int)}{k c:Nat}(hs:kX W 0 h (wZ s) sp)(hf:s.fill=some c)(hk:k<h*(W+1)):cols (nc W T) (ptd W T) sp c k=nc W (s::T) k:=by
 unfold cols ptd nc;rw[Dv hs hk,r8];by_cases h1:k%(W+1)<W
 .rw[decide_eq_true h1,if_pos h1,if_pos h1];cases hA:T.any (jZ (k%(W+1)) (k/(W+1)))with
  |true=>rw[if_neg (by simp),if_pos rfl]
  |false=>
   rw[if_neg Bool.false_ne_true];have e:jZ (k%(W+1)) (k/(W+1)) s=s.covers (k%(W+1)) (k/(W+1)):=by unfold jZ;rw[hf];rfl
   rw[e];cases hc:s.covers (k%(W+1)) (k/(W+1))with
   |true=>rw[if_pos ⟨rfl,rfl⟩,if_pos rfl,hf];rfl
   |false=>
    rw[if_neg (by simp),if_neg Bool.false_ne_true];unfold oY;rw[any_none hA];rfl
 .rw[decide_eq_false h1,if_neg h1,if_neg h1,if_neg (by simp)]
theorem Uz(p:Picture)(x y:Nat):p.dot x y=oY p.shapes x y:=by
 have e:p.shapes.reverse=((p.shapes.zipIdx.map fun s=>(s.2,s.1)).reverse).map Prod.snd:=by
  rw[List.map_reverse,map_map];show p.shapes.reverse=(p.shapes.zipIdx.map Prod.fst).reverse;rw[List.zipIdx_map_fst]
 unfold oY Picture.dot Picture.last;rw[e,List.find?_map,Option.bind_map];rfl
def gg(W h:Nat)(C:Nat->Int):List Int:=(List.range h).flatMap fun y=>(List.range W).map fun x=>C (y*(W+1)+x)
theorem M5(p:Picture):gg p.width p.height (nc p.width p.shapes)=(p.places.map fun z=>p.dot z.1 z.2).map fun(k:Nat)=>(k:Int):=by
 unfold gg Picture.places;rw[map_map,List.map_flatMap];refine congrArg (List.flatMap · (List.range p.height)) ?_;funext y
 rw[map_map];refine map_congr_left fun x hx=>?_
 have hx:=mem_range.mp hx;have e1:(y*(p.width+1)+x)%(p.width+1)=x:=by
  rw[add_comm,Nat.add_mul_mod_self_right];exact Nat.mod_eq_of_lt (by lia)
 have e2:(y*(p.width+1)+x)/(p.width+1)=y:=by
  rw[add_comm,Nat.add_mul_div_right _ _ (by lia),Nat.div_eq_of_lt (by lia),Nat.zero_add]
 unfold nc;rw[e1,e2,if_pos hx];show _=((p.dot x y:Nat):Int);rw[Uz]
theorem r6(W h:Nat)(C:Nat->Int):(gg W h C).length=h*W:=by
 unfold gg;rw[List.length_flatMap];simp[List.map_const']
theorem LO{W h:Nat}{c:Int->Int->Prop}{sp:List (Int×Int)}(hs:kX W 0 h c sp){z:Int×Int}(hz:z∈sp):0<=z.1/\z.1<z.2/\z.2.toNat<h*(W+1):=by
 obtain⟨⟨a,ha⟩,hin⟩:=hs;have h1:=(ha.low z hz).2;obtain⟨x,y,e,z1,z2,z3,z4,_⟩:=(hin z.1).mp ⟨z,hz,Int.le_refl _,h1⟩;obtain⟨x',y',e',y1,y2,y3,y4,_⟩:=(hin (z.2-1)).mp ⟨z,hz,by lia,by lia⟩;have k1:0<=y*((W:Int)+1):=mul_nonneg z3 (by lia);have k2:(y'+1)*((W:Int)+1)<=(h:Int)*((W:Int)+1):=Int.mul_le_mul_of_nonneg_right (by lia) (by lia);rw[add_mul,one_mul]at k2;have k3:((h*(W+1):Nat):Int)=(h:Int)*((W:Int)+1):=by push_cast;rfl
 exact⟨by lia,h1,by lia⟩
end Sg35
open Sg35 (ascii Byt Plain unsigned numberAt rowAt single Mat turning bB hex fillOf attr Lines fP eB weigh aV aC arity toldOf pts fB gF Pen Sim dZ pathOf numIn bM attrs letter inName cT Tag side child Style pic Picture moved Ell aO ej eE mOf jt br cE gp fI l9 sumF total ctr wZ sp1 gg Aj nc blank digit small eL natOf fN lJ bF len_takeWhile MOST bf aW bO vN eK gK iF near gh mz bQ aZ fT pen wQ pairs styled i5 inside jV sqn we i0 jW cX gG qD cY lead jN cz qE dN lR lQ pI r6 ptd cols pnt does says SIZE)
namespace L2
open PySem PySem.Spec PyProof.Rows
section
variable{prog:Program}{w:World}{J:Type}[DecidableEq J]{kd:KeyKind prog w J}{A:Around}{E:Value->Shared->Prop}{s:Shared}
inductive fX(kd:KeyKind prog w J)(h:Heap):List (List J)->List Value->Prop
 |nil:fX kd h [] []
 |cons {k:List J} {b:Addr} {ks:List (List J)} {vs:List Value}:IsTupleKey kd h k b->fX kd h ks vs->fX kd h (k::ks) (.ref b::vs)
def l8(kd:KeyKind prog w J)(h:Heap)(kss:List (List J))(a:Addr):Prop:=∃ob its m,h.get? a=some ob/\ob.cls=.type "tuple"/\ob.data=.seq its m/\fX kd h kss its.toList
theorem fX.inj{h:Heap}:∀{x y:List (List J)}{vs:List Value},fX kd h x vs->fX kd h y vs->x=y
 |_,_,_,.nil,.nil=>rfl
 |_,_,_,.cons p q,.cons p' q'=>by rw[p.inj p',fX.inj q q']
theorem l8.ty{kss:List (List J)}{a:Addr}(z:l8 kd s.heap kss a):s.TypeIs (.ref a) "tuple":=by
 obtain⟨ob,_,_,e,c,_⟩:=z;exact⟨ob,e,c⟩
theorem l8.inj{h:Heap}{a:Addr}{x y:List (List J)}(p:l8 kd h x a)(q:l8 kd h y a):x=y:=by
 obtain⟨o1,i1,n1,e1,_,d1,r1⟩:=p;obtain⟨o2,i2,n2,e2,_,d2,r2⟩:=q;rw[e1]at e2;cases e2;rw[d1]at d2;cases d2;exact r1.inj r2
theorem fX.keeps{h h':Heap}{d:Addr}{o:Obj}{es:Array DictEntry}{ep:Nat}(ho:h.get? d=some o)(hd:o.data=.dict es ep)(hs:Heap.SameBut d h h'):∀{x:List (List J)}{vs:List Value},fX kd h x vs->fX kd h' x vs
 |_,_,.nil=>.nil
 |_,_,.cons p q=>.cons (p.keeps ho hd hs) (fX.keeps ho hd hs q)
theorem l8.keeps{h h':Heap}{kss:List (List J)}{a d:Addr}{o:Obj}{es:Array DictEntry}{ep:Nat}(z:l8 kd h kss a)(ho:h.get? d=some o)(hd:o.data=.dict es ep)(hs:Heap.SameBut d h h'):l8 kd h' kss a:=by
 obtain⟨ob,its,m,e,c,dd,r⟩:=z;refine⟨ob,its,m,(hs.2 a fun q=>?_).trans e,c,dd,r.keeps ho hd hs⟩;subst q;rw[e]at ho;cases ho;rw[hd]at dd;cases dd
def Jc(kd:KeyKind prog w J)(kss:List (List J)):Int:=reduceHash (Builtin.Tuple.tupleHashOf (kss.map (tupleKeyHash kd)))
def jl:List (List J)->Nat
 |[]=>0
 |k::r=>(k.length+1)+jl r
theorem kq(k:List J):∀l:List (List J),jl (l++[k])=jl l+(k.length+1)
 |[]=>by simp[jl]
 |a::l=>by
  have:=kq k l;show(a.length+1)+jl (l++[k])=(a.length+1)+jl l+(k.length+1);omega
theorem Fq{kss:List (List J)}{a:Addr}{Q:Int->Shared->Prop}(hu:A.units+1<cLine)(hk:l8 kd s.heap kss a)(hq:Q (Jc kd kss) {s with toks:=s.toks+(jl kss+1)}):
  wpAny (model prog w) A (pyHash (.ref a)) Q E s:=by
 have hT:=hk.ty;obtain⟨ob,its,m,e,_,dd,r⟩:=hk;unfold pyHash
 first|unfold pyHashByItsType|skip
 first|refine wpAny_bind (wpAny_cRoomFor_or (.inr (by omega)) ?_)|skip
 refine wpAny_bind (wpAny_specialOf hT PySem.F.slot_tuple_hash.lookup ?_);show wpAny _ _ (if (some (Value.builtin "tuple.__hash__")==some Value.none)=true then _ else _) Q E s;rw[if_neg (by rw[beq_builtin_none];exact Bool.false_ne_true)];refine wpAny_bind (wpAny_specialOf hT PySem.F.slot_tuple_hash.lookup ?_);show wpAny _ _ (callSpecialIfBoundUnlessNone? (.ref a) "__hash__" _ >>= _) Q E s;refine wpAny_bind (wpAny_callSpecialIfBoundUnlessNone?_slot hT PySem.F.slot_tuple_hash (wpAny_call_entry PySem.F.slot_tuple_hash hT PySem.F.entry_tuple_hash ?_ (PySem.F.args_tuple_hash_1 _)));show wpAny _ _ (Builtin.Tuple.tupleItemsOf (.ref a) >>= _) _ _ s;refine wpAny_bind (wpAny_tupleItemsOf e dd ?_);refine wpAny_bind ?_;rw[<-Array.forIn_toList];refine wpAny_forIn_list _ (fun rest (b:Array Int) s'=>∃dn lf,kss=dn++lf/\fX kd s.heap lf rest/\b.toList=dn.map (tupleKeyHash kd)/\s'={s with toks:=s.toks+jl dn}) _ ?_ ?_ _ _ ⟨[],kss,rfl,r,rfl,rfl⟩
 .rintro x rest b s' ⟨dn,lf,rfl,hl,hb,rfl⟩;cases hl with
  |@cons k c ks' _ h1 hl'=>
   refine wpAny_bind (wpAny_pyHash_tuple (knd:=kd) (ks:=k) ?_ h1 ?_)
   .show A.units+1<cLine;exact hu
   .first
     |exact wpAny_pure ⟨dn++[k],ks',by simp,hl',by simp[hb],by rw[kq];simp[add_assoc]⟩
     |exact wpAny_bind (wpAny_pure (wpAny_pure ⟨dn++[k],ks',by simp,hl',by simp[hb],by rw[kq];simp[add_assoc]⟩))
 .rintro b s' ⟨dn,lf,rfl,hl,hb,rfl⟩;cases hl;rw[append_nil]at hq;show wpAny _ _ (retInt (Builtin.Tuple.tupleHashOf b.toList)) _ _ _;rw[hb];refine wpAny_ret_mkInt ?_;show wpAny _ _ (if (decide (-(2:Int)^63<=Builtin.Tuple.tupleHashOf (dn.map (tupleKeyHash kd)))&&decide (Builtin.Tuple.tupleHashOf (dn.map (tupleKeyHash kd))<2^63))=true then _ else _) Q E _;unfold Jc reduceHash at hq;by_cases hr:(decide (-(2:Int)^63<=Builtin.Tuple.tupleHashOf (dn.map (tupleKeyHash kd)))&&decide (Builtin.Tuple.tupleHashOf (dn.map (tupleKeyHash kd))<2^63))=true
  .rw[if_pos hr]at hq ⊢;exact wpAny_pure (by simpa [add_assoc] using hq)
  .rw[if_neg hr]at hq ⊢;exact wpAny_bind (wpAny_rule (wpAny_pure (by simpa [add_assoc] using hq)))
theorem M4{x y:List (List J)}{a b:Addr}{R:Fin->Shared->Prop}(hu:A.units<cLine)(hx:l8 kd s.heap x a)(hy:l8 kd s.heap y b)(hq:R (.done (.ret (.bool (decide (x=y))))) s):
  wpAny (model prog w) A (Builtin.«tuple.__eq__» ⟨[.ref a,.ref b],[]⟩) R E s:=by
 have hTb:=hy.ty;obtain⟨o1,xs,n1,e1,_,d1,r1⟩:=hx;obtain⟨o2,ys,n2,e2,_,d2,r2⟩:=hy;show wpAny _ _ (isInstance (.ref b) (.type "tuple") >>= _) _ _ s;refine wpAny_bind (wpAny_isInstance hTb isSubtype_tuple_tuple ?_);simp only[Bool.not_true,Bool.false_eq_true,if_false];refine wpAny_bind (wpAny_tupleItemsOf e1 d1 (wpAny_bind (wpAny_tupleItemsOf e2 d2 (wpAny_bind ?_))));refine wpAny_forIn_list _
  (fun rest g s'=>g.1=none/\s'=s/\∃x' y' p q,rest=List.zip p q/\fX kd s.heap x' p/\fX kd s.heap y' q/\decide (x'=y')=decide (x=y)/\(p.length==q.length)=(xs.size==ys.size))
  _ ?_ ?_ _ _ ⟨rfl,rfl,x,y,xs.toList,ys.toList,rfl,r1,r2,rfl,by simp⟩
 .rintro⟨u,v⟩ rest g s' ⟨hg,rfl,x',y',p,q,hz,hx',hy',Fo,hlen⟩;cases hx' with
  |nil=>simp at hz
  |@cons k1 b1 x2 p2 h1 hx2=>
   cases hy' with
   |nil=>simp at hz
   |@cons k2 b2 y2 q2 h2 hy2=>
    simp only[zip_cons_cons,List.cons.injEq,Prod.mk.injEq]at hz;obtain⟨⟨rfl,rfl⟩,rfl⟩:=hz;refine wpAny_bind (wpAny_eqBool_tuple (knd:=kd) hu h1 h2 ?_);by_cases hk:k1=k2
    .subst hk;rw[decide_eq_true rfl];simp only[Bool.not_true,Bool.false_eq_true,if_false];refine wpAny_pure ⟨rfl,rfl,x2,y2,p2,q2,rfl,hx2,hy2,?_,by simpa using hlen⟩;rw[<-Fo];by_cases hxy:x2=y2
     .rw[hxy,decide_eq_true rfl,decide_eq_true rfl]
     .rw[decide_eq_false hxy,decide_eq_false fun z=>hxy (List.cons.inj z).2]
    .rw[decide_eq_false hk];simp only[Bool.not_false,if_true];have hf:decide (x=y)=false:=by rw[<-Fo];exact decide_eq_false fun z=>hk (List.cons.inj z).1
     rw[hf]at hq;exact wpAny_bind (wpAny_pure (wpAny_pure (wpAny_pure hq)))
 .rintro⟨g1,g2⟩ s' ⟨hg,rfl,x',y',p,q,hz,hx',hy',Fo,hlen⟩;cases(show g1=none from hg);refine wpAny_pure ?_;have Yg:(xs.size==ys.size)=decide (x=y):=by
   rw[<-Fo,<-hlen];cases hx' with
   |nil=>cases hy'<;>simp
   |cons _ _=>
    cases hy' with
    |nil=>simp
    |cons _ _=>simp at hz
  show R (.done (.ret (.bool (xs.size==ys.size)))) s';rw[Yg];exact hq
theorem Ji{x y:List (List J)}{a b:Addr}{Q:Bool->Shared->Prop}(hu:A.units+1<cLine)(hx:l8 kd s.heap x a)(hy:l8 kd s.heap y b)(hq:Q (decide (x=y)) s):
  wpAny (model prog w) A (eqBool (.ref a) (.ref b)) Q E s:=by
 unfold eqBool
 try with_reducible refine wpAny_holding ?_
 show wpAny _ _ (if (Value.ref a==Value.ref b)=true then _ else _) Q E s;by_cases hab:(Value.ref a==Value.ref b)=true
 .rw[if_pos hab];injection eq_of_beq hab with e
  subst e;cases hx.inj hy;exact wpAny_bind (wpAny_rule (wpAny_pure (by simpa using hq)))
 .rw[if_neg hab];exact wpAny_bind (wpAny_richCompare_same_room (op:=.Eq) hx.ty hy.ty PySem.F.slot_tuple_eq
   (wpAny_call_entry PySem.F.slot_tuple_eq hx.ty PySem.F.entry_tuple_eq (M4 hu hx hy ⟨_,rfl,(fun e=>nomatch e),wpAny_truthy_bool hq⟩) (PySem.F.args_tuple_eq_2 _ _)) (by omega))
theorem Es{n:Nat}{ks:List J}{a:Addr}{Q:Bool->Shared->Prop}(hk:IsTupleKey kd s.heap ks a)(hq:Q true s):wpAny (model prog w) A (eqIsQuiet (n+1) (.ref a)) Q E s:=by
 have hT:=hk.typeIs;obtain⟨ob,its,m,e,_,dd,r⟩:=hk;unfold eqIsQuiet;refine wpAny_bind (wpAny_specialOf hT PySem.F.slot_tuple_eq.lookup ?_);show wpAny _ _ (isInstance (.ref a) (.type "tuple") >>= _) _ _ s;refine wpAny_bind (wpAny_isInstance hT isSubtype_tuple_tuple ?_);simp only[Bool.not_true,Bool.false_eq_true,if_false];refine wpAny_bind (wpAny_seqItems e dd (wpAny_bind ?_));show wpAny _ _ (forIn its _ _) _ _ s;rw[<-Array.forIn_toList];refine wpAny_forIn_list _ (fun rest g s'=>g.1=none/\s'=s/\∀v∈rest,carriedByValue v=true) _ ?_ ?_ _ _ ⟨rfl,rfl,r.byValue⟩
 .rintro v rest g s' ⟨hg,rfl,kW⟩;rw[eqIsQuiet_byValue _ (kW v mem_cons_self)];refine wpAny_bind (wpAny_pure ?_);simp only[Bool.not_true,Bool.false_eq_true,if_false];exact wpAny_pure ⟨rfl,rfl,fun z hz=>kW z (mem_cons_of_mem _ hz)⟩
 .rintro⟨g1,g2⟩ s' ⟨hg,rfl,_⟩;cases(show g1=none from hg);exact wpAny_pure hq
theorem Bc{kss:List (List J)}{a:Addr}{Q:Bool->Shared->Prop}(hk:l8 kd s.heap kss a)(hq:Q true s):wpAny (model prog w) A (eqIsQuiet 8 (.ref a)) Q E s:=by
 have hT:=hk.ty;obtain⟨ob,its,m,e,_,dd,r⟩:=hk;unfold eqIsQuiet;refine wpAny_bind (wpAny_specialOf hT PySem.F.slot_tuple_eq.lookup ?_);show wpAny _ _ (isInstance (.ref a) (.type "tuple") >>= _) _ _ s;refine wpAny_bind (wpAny_isInstance hT isSubtype_tuple_tuple ?_);simp only[Bool.not_true,Bool.false_eq_true,if_false];refine wpAny_bind (wpAny_seqItems e dd (wpAny_bind ?_));show wpAny _ _ (forIn its _ _) _ _ s;rw[<-Array.forIn_toList];refine wpAny_forIn_list _ (fun rest g s'=>g.1=none/\s'=s/\∃lf,fX kd s.heap lf rest) _ ?_ ?_ _ _ ⟨rfl,rfl,_,r⟩
 .rintro v rest g s' ⟨hg,rfl,lf,hl⟩;cases hl with
  |cons p q=>
   refine wpAny_bind (Es (n:=6) p ?_);simp only[Bool.not_true,Bool.false_eq_true,if_false];exact wpAny_pure ⟨rfl,rfl,_,q⟩
 .rintro⟨g1,g2⟩ s' ⟨hg,rfl,_⟩;cases(show g1=none from hg);exact wpAny_pure hq
end
def ur{prog:Program}{w:World}{J:Type}[DecidableEq J](kd:KeyKind prog w J):HeapKind prog w (List (List J)) where
 is:=l8 kd
 hash:=Jc kd
 draws:=fun kss=>jl kss+1
 room:=fun A=>A.units+1<cLine
 inj:=fun hx hy=>hx.inj hy
 keeps:=fun x ho hd hs=>x.keeps ho hd hs
 pyHash:=fun hu hk h=>Fq hu hk h
 eqBool:=fun hu hx hy h=>Ji hu hx hy h
 quiet:=fun hk h=>Bc hk h
abbrev K2:=List (List Key)
def Tp2(H:Hp)(b:Addr)(k:K2):Prop:=∃cs:List Addr,H b=some (.tup (cs.map V.ref))/\Paired (fun(ks:List Key) (c:Addr)=>H c=some (.tup (ks.map kV))) k cs
theorem Tp2.keeps{H H':Hp}{b:Addr}{k:K2}(h:Tp2 H b k)(ht:∀c ys,H c=some (.tup ys)->H' c=some (.tup ys)):Tp2 H' b k:=by
 obtain⟨cs,e,r⟩:=h;exact⟨cs,ht _ _ e,Paired.mono (fun ks c q=>ht _ _ q) r⟩
def E2(P:Program)(w:World)(a:Addr)(xs:List (K2×Addr×Value)):HO:=.ext fun h=>∃o es ep,h.get? a=some o/\o.ExactDict/\o.data=.dict es ep/\es.toList=xs.map (entryOfKey (ur (bt P w)))
def KT2(H:Hp)(kvs:List (K2×V))(xs:List (K2×Addr×Value)):Prop:=Paired (fun(p:K2×V) (q:K2×Addr×Value)=>p.1=q.1/\Tp2 H q.2.1 p.1/\RelV p.2 q.2.2) kvs xs
def PD(P:Program)(w:World)(H:Hp)(a:Addr)(kvs:List (K2×V))(u:HO):Prop:=∃xs,u=E2 P w a xs/\(a==sysModules)=false/\xs.length<=sizeLine/\(xs.map (·.1)).Nodup/\KT2 H kvs xs
theorem KT2.keeps{H H':Hp}{kvs:List (K2×V)}{xs:List (K2×Addr×Value)}(r:KT2 H kvs xs)(ht:∀b ys,H b=some (.tup ys)->H' b=some (.tup ys)):KT2 H' kvs xs:=
 Paired.mono (fun p q z=>⟨z.1,z.2.1.keeps ht,z.2.2⟩) r
theorem PD.keeps{P:Program}{w:World}{H H':Hp}{a:Addr}{kvs:List (K2×V)}{u:HO}(h:PD P w H a kvs u)(ht:∀b ys,H b=some (.tup ys)->H' b=some (.tup ys)):PD P w H' a kvs u:=by
 obtain⟨xs,e,h1,h2,h3,h4⟩:=h;exact⟨xs,e,h1,h2,h3,h4.keeps ht⟩
theorem PD.mut{P:Program}{w:World}{H:Hp}{a:Addr}{kvs:List (K2×V)}{u:HO}(h:PD P w H a kvs u):Mut (some u):=by
 obtain⟨xs,rfl,_⟩:=h;exact True.intro
theorem KT2.val{H:Hp}{kvs:List (K2×V)}{xs:List (K2×Addr×Value)}(r:KT2 H kvs xs)(k:K2):il (dJ kvs k) ((atKey xs k).map (·.2)):=by
 unfold KT2 at r;induction r with
 |nil=>exact trivial
 |@cons p q ps qs h t ih=>
  by_cases e:p.1=k
  .have e2:q.1=k:=h.1.symm.trans e;rw[ip e];have:atKey (q::qs) k=some q.2:=by simp[atKey,List.find?_cons,e2]
   rw[this];exact h.2.2
  .have e2:¬q.1=k:=fun z=>e (h.1.trans z)
   rw[iq e];have:atKey (q::qs) k=atKey qs k:=by simp[atKey,List.find?_cons,e2]
   rw[this];exact ih
section
variable{P:Program}{w:World}{H:Hp}{h:Heap}{a b:Addr}{k:K2}{kvs:List (K2×V)}{u:HO}
theorem pN(ok:HOk P w H h)(e:Tp2 H b k):(ur (bt P w)).is h k b:=by
 obtain⟨cs,e,r⟩:=e;obtain⟨_,its,rv,o,h1,h2,n,h3⟩:=(show b9 P w H h b (.tup (cs.map V.ref))from ok b _ e);refine⟨o,its.toArray,n,h1,h2,h3,?_⟩;have rows:∀{k:K2}{cs:List Addr}{its:List Value},Paired (fun(ks:List Key) (c:Addr)=>H c=some (.tup (ks.map kV))) k cs->Vals (cs.map V.ref) its->fX (bt P w) h k its:=by
  intro k cs its r;induction r generalizing its with
  |nil=>intro rv;cases rv;exact .nil
  |cons x y ih=>
   intro rv;cases rv with
   |cons x1 y1=>
    cases x1;exact .cons (l3 ok x) (ih y1)
 simpa using rows r rv
theorem uD(ok:HOk P w H h)(e:Rd H a u)(d:PD P w H a kvs u):(a==sysModules)=false/\∃xs,KT2 H kvs xs/\xs.length<=sizeLine/\u=E2 P w a xs/\h.DictOfH (ur (bt P w)) a xs:=by
 obtain⟨xs,rfl,h1,h2,h3,h4⟩:=d;obtain⟨⟨o,es,ep,g1,g2,g3,g4⟩,_,_⟩:=(show b9 P w H h a (E2 P w a xs)from Hv ok e);refine⟨h1,xs,h4,h2,rfl,o,es,ep,g1,g2,g3,g4,fun x hx=>?_,h3⟩;have all:∀{l:List (K2×V)}{m:List (K2×Addr×Value)},KT2 H l m->∀x∈m,(ur (bt P w)).is h x.1 x.2.1:=by
  intro l m q;unfold KT2 at q;induction q with
  |nil=>intro x hx;exact nomatch hx
  |cons z t ih=>
   intro x hx;rcases mem_cons.mp hx with e|hx
   .subst e;exact pN ok (by rw[<-z.1];exact z.2.1)
   .exact ih x hx
 exact all h4 x hx
end
theorem KT2.any{H:Hp}{kvs:List (K2×V)}{xs:List (K2×Addr×Value)}(r:KT2 H kvs xs)(k:K2):(kvs.any fun kv=>decide (kv.1=k))=(atKey xs k).isSome:=by
 rw[me k kvs,(r.val k).gD,isSome_map]
theorem KT2.put{H:Hp}{kvs:List (K2×V)}{xs:List (K2×Addr×Value)}(r:KT2 H kvs xs)(k:K2){b:Addr}{y:V}{u:Value}(hb:Tp2 H b k)(ry:RelV y u):KT2 H (putK kvs k y) (storedH xs k b u):=by
 unfold putK storedH;rw[r.any k];cases hq:(atKey xs k).isSome with
 |true=>
  simp only[if_true];unfold KT2 at r ⊢;clear hq;induction r with
  |nil=>exact .nil
  |@cons p q ps qs z t ih=>
   refine .cons ?_ ih;unfold putAt;dsimp only;by_cases e:p.1=k
   .rw[if_pos e,if_pos (z.1.symm.trans e)];exact⟨z.1,z.2.1,ry⟩
   .rw[if_neg e,if_neg fun x=>e (z.1.trans x)];exact z
 |false=>
  simp only[Bool.false_eq_true,if_false];unfold KT2 at r ⊢;clear hq;induction r with
  |nil=>exact .cons ⟨rfl,hb,ry⟩ .nil
  |cons z t ih=>exact .cons z ih
theorem xF{J:Type}[DecidableEq J](xs:List (J×Addr×Value))(k:J)(b:Addr)(u:Value):(storedH xs k b u).length<=xs.length+1:=by
 unfold storedH;split
 .rw[length_map];omega
 .rw[length_append];exact le_refl _
theorem Hs{A:Around}{P:Program}{w:World}(hu:A.units+2<cLine):(ur (bt P w)).room A.in1:=by
 show A.units+1+1<cLine;exact hu
section
variable{X:Cx}{pins:List (Addr×Obj)}{Y:St}{H:Hp}{s:Shared}{a b:Addr}{k:K2}{kvs:List (K2×V)}{o:HO}{v d:V}{r:Value}{A:Around}{E:Value->Shared->Prop}
theorem Ez{Q:Value->Shared->Prop}(hu:A.units+2<cLine)(I:Inv X pins Y H s)(e:Rd H a o)(g:PD X.prog X.w H a kvs o)(eb:Tp2 H b k)(l:dJ kvs k=some v)(h:∀w' s',Inv X pins Y H s'->RelV v w'->Q w' s'):
  wpAny (model X.prog X.w) A (getItem (.ref a) (.ref b)) Q E s:=by
 obtain⟨hd,xs,rel,hl,_,dd⟩:=uD I.hok e g;obtain⟨w',hw,rw'⟩:=il.some_of (v:=v) (o:=(atKey xs k).map (·.2)) (by rw[<-l];exact rel.val k);obtain⟨p,hp,hp2⟩:=map_eq_some_iff.mp hw;refine wpAny_getItem_heap (Hs hu) (pN I.hok eb) dd hp ?_;rw[hp2];exact h w' _ (I.tok _) rw'
theorem Vp{Q:Value->Shared->Prop}(hu:A.units+2<cLine)(I:Inv X pins Y H s)(e:Rd H a o)(g:PD X.prog X.w H a kvs o)(eb:Tp2 H b k)(rd:RelV d r)(h:∀w' s',Inv X pins Y H s'->RelV ((dJ kvs k).getD d) w'->Q w' s'):
  wpAny (model X.prog X.w) A (call (.builtin "dict.get") [.ref a,.ref b,r]) Q E s:=by
 obtain⟨hd,xs,rel,hl,_,dd⟩:=uD I.hok e g;exact call_meetsIn PySem.F.slot_dict_get dd.typeIs PySem.F.entry_dict_get (PySem.F.args_dict_get_3 _ _ _) (meetsH_dict_get_default (ur (bt X.prog X.w)) a b hd r) ⟨Hs hu,k,xs,pN I.hok eb,dd,h _ _ (I.tok _) ((rel.val k).getD rd)⟩
theorem Ey{Q:Unit->Shared->Prop}(hu:A.units+2<cLine)(I:Inv X pins Y H s)(e:H a=some o)(g:PD X.prog X.w H a kvs o)(eb:Tp2 H b k)(hl:kvs.length<sizeLine)(rv:RelV v r)
  (h:∀o' s',PD X.prog X.w (upd H a o') a (putK kvs k v) o'->Inv X pins Y (upd H a o') s'->Q () s'):wpAny (model X.prog X.w) A (setItem (.ref a) (.ref b) r) Q E s:=by
 obtain⟨hd,xs,rel,hz,rfl,dd⟩:=uD I.hok (.inl e) g;refine wpAny_setItem_heap (hsz:=hz) (Hs hu) (pN I.hok eb) dd fun h' dd' hs=>?_
 obtain⟨q,es,ep,hq,h2,h3,h4,_,h5⟩:=dd';have hk:∀c ys,H c=some (.tup ys)->upd H a (E2 X.prog X.w a (storedH xs k b r)) c=some (.tup ys):=fun c ys ec=>by
  rw[aq (iC ec e (fun z=>nomatch z))];exact ec
 have hlen:xs.length<sizeLine:=by rw[<-Paired.length rel];exact hl
 refine h (E2 X.prog X.w a (storedH xs k b r)) _ ⟨_,rfl,hd,by have:=xF xs k b r;omega,h5,(rel.put k eb rv).keeps hk⟩ ?_;refine wU I (by rw[e];exact True.intro) hs ⟨q,hq⟩ ⟨⟨q,es,ep,hq,h2,h3,h4⟩,⟨q,hq⟩,fun h1 h2 ⟨o1,e1,p1,z1,z2⟩ kk=>⟨o1,e1,p1,kk _ z1,z2⟩⟩
end
def QT(P:Program)(w:World):TE:=fun _ H Q=>∀p o,H p=none->PD P w (upd H p o) p [] o->Q (.ref p) (upd H p o)
def QV(P:Program)(w:World)(td ty:TE):TE:=fun Y H Q=>td Y H fun x H1=>ty Y H1 fun y H2=>∃a b k kvs o v,x=.ref a/\y=.ref b/\Tp2 H2 b k/\Rd H2 a o/\PD P w H2 a kvs o/\dJ kvs k=some v/\Q v H2
def IsP(P:Program)(w:World)(H:Hp)(a:Addr):Prop:=∃kvs o,Rd H a o/\PD P w H a kvs o
def LJ(P:Program)(w:World)(td ty tx:TE):TE:=fun Y H Q=>td Y H fun x H1=>∃a,x=.ref a/\IsP P w H1 a/\ty Y H1 fun y H2=>tx Y H2 fun z H3=>∃b k kvs o,y=.ref b/\Tp2 H3 b k/\Rd H3 a o/\PD P w H3 a kvs o/\Q ((dJ kvs k).getD z) H3
def RG(P:Program)(w:World)(td ty tv:TE):TS:=fun D Y H=>tv Y H fun v H1=>td Y H1 fun x H2=>ty Y H2 fun y H3=>∃a b k kvs o,x=.ref a/\y=.ref b/\Tp2 H3 b k/\H3 a=some o/\PD P w H3 a kvs o/\kvs.length<sizeLine/\
 ∀o',PD P w (upd H3 a o') a (putK kvs k v) o'->D.nx Y (upd H3 a o')
def ItP(P:Program)(w:World)(d:Addr)(ob:Obj)(kvs:List (K2×V)):It:=
 ⟨fun i H=>(∃u,H d=some (.frz ob u)/\PD P w H d kvs u)/\i<kvs.length,fun i H x H'=>H'=H/\∃(k:K2)(v:V)(q:Addr),kvs[i]?=some (k,v)/\x=.ref q/\Tp2 H q k,fun i H=>(∃u,H d=some (.frz ob u)/\PD P w H d kvs u)/\kvs.length<=i⟩
def T3(P:Program)(w:World)(td:TE):TI:=fun Y H R=>td Y H fun x H1=>∃d ob u kvs,x=.ref d/\H1 d=some (.frz ob u)/\PD P w H1 d kvs u/\R (ItP P w d ob kvs) H1
section
variable{X:Cx}{pins:List (Addr×Obj)}{Y:St}{H:Hp}{s:Shared}{d:Addr}{ob:Obj}
theorem Inv.Ut{kvs:List (K2×V)}{u:HO}(I:Inv X pins Y H s)(h:H d=some (.frz ob u))(g:PD X.prog X.w H d kvs u):
  (d==sysModules)=false/\s.heap.get? d=some ob/\ob.ExactDict/\∃(es:Array DictEntry)(ep:Nat),ob.data=.dict es ep/\es.size=kvs.length/\
   ∀(i:Nat)(k:K2)(v:V),kvs[i]?=some (k,v)->∃(en:DictEntry)(q:Addr),es[i]?=some en/\en.key=.ref q/\Tp2 H q k:=by
 obtain⟨hs,xs,rel,hl,rfl,o',es,ep,g1,g2,g3,g4,_,_⟩:=uD I.hok (.inr ⟨ob,h⟩) g;obtain⟨hd,_⟩:=I.hok d _ h;rw[hd]at g1;cases g1;refine⟨hs,hd,g2,es,ep,g3,?_,fun i k v e=>?_⟩
 .have l1:es.size=xs.length:=size_of_entries g4;have l2:kvs.length=xs.length:=Paired.length rel;omega
 .obtain⟨b,hb,e1,e2,_⟩:=Bl rel e;have q:=entry_at g4 i;rw[hb]at q;exact⟨_,b.2.1,q,rfl,e2⟩
end
section
variable{P:Program}{w:World}{K:Frag}{tg:Expr}{d:Addr}{ob:Obj}{es:Array DictEntry}{ep:Nat}
theorem AF{kvs:List (K2×V)}(it:Addr)(hod:ob.data=.dict es ep):Turn P w K tg (ItP P w d ob kvs) [it] it (fun i h=>h.IsKeyIter it d i kvs.length ep) where
 mem:=by simp
 obj:=fun i h st b hb=>by
  cases(show b=it by simpa using hb);obtain⟨oi,e,c,dd⟩:=st;exact⟨oi,e,fun v z=>by rw[dd]at z;cases z⟩
 keep:=fun i h h' st k=>st.at fun oi e=>k it (by simp) oi e
 item:=by
  intro X hP hw hK hc i pins s Y H E I hf st hg;subst hP hw hK;obtain⟨⟨u,hd,g⟩,hi⟩:=hg;obtain⟨f0,f1,f2,f3,f4,f5⟩:=hf it (by simp);obtain⟨hs,hgd,hx,es',ep',hdt,hsz,ent⟩:=I.Ut hd g;obtain⟨rfl,rfl⟩:=DB hod hdt;obtain⟨⟨k,v⟩,hkv⟩:∃p,kvs[i]?=some p:=⟨kvs[i],List.getElem?_eq_getElem hi⟩;obtain⟨en,q,hen,rN,hq⟩:=ent i k v hkv;refine tI st hgd hdt hsz hen fun h' st' sb=>?_
  have I1:Inv X pins Y H {s with heap:=h'}:=I.turned (t':=s.toks) (fun b o2 hb e=>(sb.2 b hb).trans e) f0 f1 f3 f4 f5;obtain⟨oi,e,c,dd⟩:=id st';exact⟨en.key,rfl,rS (s:={s with heap:=h'}) e c dd (by decide) ⟨.ref q,H,I1,rN,⟨rfl,k,v,q,hkv,rfl,hq⟩,st',fun b hb=>(hf b hb).1⟩⟩
 done:=by
  intro X hP hw hK hc i pins s Y H E I hf st hg;subst hP hw hK;obtain⟨⟨u,hd,g⟩,hi⟩:=hg;obtain⟨f0,f1,f2,f3,f4,f5⟩:=hf it (by simp);obtain⟨hs,hgd,hx,es',ep',hdt,hsz,ent⟩:=I.Ut hd g;obtain⟨rfl,rfl⟩:=DB hod hdt;exact wj (I.ok.hd hc) st hgd hdt hsz hi fun h' eb=>⟨rfl,I.turned (t':=s.toks) (fun b o2 hb e=>eb b o2 hb e) f0 f1 f3 f4 f5⟩
 self:=fun A i s Q E st h=>by
  refine wpAny_pyIter_slot st.typeIs PySem.F.slot_dict_keyiterator_iter (wpAny_call_entry PySem.F.slot_dict_keyiterator_iter st.typeIs PySem.F.entry_dict_keyiterator_iter ?_ (PySem.F.args_dict_keyiterator_iter_1 _));show wpAny _ _ (ret (.ref it)) _ _ s;exact wpAny_pure ⟨_,rfl,"dict_keyiterator",_,st.typeIs,PySem.F.slot_dict_keyiterator_next.lookup,h⟩
end
section
variable{X:Cx}{o i value e f tg:Expr}{pos pos' apos gS:Pos}{td ty tv tx:TE}
theorem HN:PE X (.Dict [] [] pos) (QT X.prog X.w):=fun pins s Y H Q I h=>by
 have hn:=I.hok.fresh (le_refl s.heap.objs.size);refine wpAny_Dict_empty ⟨.ref s.heap.objs.size,_,I.laid (a:=s.heap.objs.size) (o:=E2 X.prog X.w s.heap.objs.size []) (t':=s.toks) (fun _ _ q=>Heap.get?_push_of_some _ q) (le_refl _) ?_,rfl,h _ _ hn ⟨[],rfl,?_,zero_le _,nodup_nil,.nil⟩⟩
 .exact⟨⟨_,#[],0,Heap.get?_push_size _ rfl,⟨rfl,rfl,rfl⟩,rfl,rfl⟩,⟨_,Heap.get?_push_size _ rfl⟩,fun h1 h2 ⟨o1,e1,p1,z1,z2⟩ kk=>⟨o1,e1,p1,kk _ z1,z2⟩⟩
 .have:=I.big;exact beq_eq_false_iff_ne.mpr (ne_of_gt this)
theorem yf(hu:X.A.units+2<cLine)(ho:PE X o td)(hi:PE X i ty)(hs:Nl i):PE X (.Subscript o i pos) (QV X.prog X.w td ty):=by
 intro pins s Y H Q I h;refine vi PySem.F.slot_dict_getitem.lookup hs (thn (ho pins s Y H _ I h) fun u s1 ⟨x,H1,I1,rx,q1⟩=>thn (hi pins s1 Y H1 _ I1 q1) fun iv s2 hZ=>?_);obtain⟨y,H2,I2,ry,a,b,k,kvs,ho,v,ex,ey,eb,er,g,l,q2⟩:=hZ;subst ex ey;obtain rfl:u=Value.ref a:=rx;obtain rfl:iv=Value.ref b:=ry;obtain⟨_,xs,_,_,_,dd⟩:=uD I2.hok er g;exact⟨dd.typeIs,Ez hu I2 er g eb l fun w' s3 I3 rw'=>⟨v,H2,I3,rw',q2⟩⟩
theorem uf(hu:X.A.units+2<cLine)(ho:PE X o td)(he:PE X e ty)(hf:PE X f tx)(m:M2 X o "get" apos e f gS):PE X (.Call (.Attribute o "get" apos) [e,f] [] gS) (LJ X.prog X.w td ty tx):=by
 intro pins s Y H Q I h;refine wpAny_Call_method m.base m.few m.line PySem.F.plainAttrs_dict PySem.F.slot_dict_get PySem.F.type_dict_get (thn (ho pins s Y H _ I h) fun u s1 hZ=>?_);obtain⟨x,H1,I1,rx,a,ex,⟨YS,o1,er1,g1⟩,q1⟩:=hZ;subst ex;obtain rfl:u=Value.ref a:=rx;obtain⟨hd,xs,_,_,_,dd⟩:=uD I1.hok er1 g1;refine⟨dd.typeIs,fun b q=>?_,?_⟩
 .cases q;obtain⟨ob,_,_,z1,z2,_⟩:=dd;exact⟨ob,z1,z2.2.1⟩
 rw[m.trees];refine Calls.callWith_builtin rfl (Calls.evalArgs_plain (Calls.spliced_cons (thn (he pins s1 Y H1 _ I1 q1) fun iv s2 ⟨y,H2,I2,ry,q2⟩=>
  Calls.spliced_cons (thn (hf pins s2 Y H2 _ I2 q2) fun fv s3 ⟨z,H3,I3,rz,b,k,kvs,ho3,ey,eb,er,g,q3⟩=>Calls.spliced_nil ?_))))
 subst ey;obtain rfl:iv=Value.ref b:=ry;exact Vp hu I3 er g eb rz fun w' s4 I4 rw'=>⟨_,H3,I4,rw',q3⟩
theorem x9(hu:X.A.units+2<cLine)(ho:PE X o td)(hi:PE X i ty)(hv:PE X value tv)(hs:swapsWith value (some (.Subscript o i pos')) pos.line X.env=pure false):
  PS X (.Assign [.Subscript o i pos'] value pos) (RG X.prog X.w td ty tv):=by
 intro pins s Y H D I h;refine wpAny_Assign_Subscript (thn (hv pins s Y H _ I h) fun r s1 ⟨v,H1,I1,rv,q1⟩=>thn (ho pins s1 Y H1 _ I1 q1) fun u s2 ⟨x,H2,I2,rx,q2⟩=>thn (hi pins s2 Y H2 _ I2 q2) fun iv s3 hZ=>?_) hs;obtain⟨y,H3,I3,ry,a,b,k,kvs,o3,ex,ey,eb,er,g,hl,q3⟩:=hZ;subst ex ey;obtain rfl:u=Value.ref a:=rx;obtain rfl:iv=Value.ref b:=ry;exact Ey hu I3 er g eb hl rv fun o' s4 g' I4=>⟨Y,_,I4,q3 o' g'⟩
theorem HH(he:PE X e td):PI X tg e (T3 X.prog X.w td):=by
 intro pins s Y H R I h;refine thn (he pins s Y H _ I h) fun u s1 hZ=>?_
 obtain⟨x,H1,I1,rx,d,ob,u1,kvs,ex,hd,g,q⟩:=hZ;subst ex;obtain rfl:u=Value.ref d:=rx;obtain⟨hs,hgd,hx,es,ep,hdt,hsz,ent⟩:=I1.Ut hd g;refine E6 hs hgd hx hdt (qM (tk:=s1.toks) I1 _ (AF _ hdt) ⟨_,Heap.get?_push_size _ rfl,rfl,?_⟩ q);rw[hsz]<;>rfl
end
end L2
namespace L2
open PySem PySem.Spec PyProof.Rows PySem.W
def big:Nat:=2^1000
def UO(i j:Int):Prop:=i.natAbs<big/\j.natAbs<big
def Nq(i j:Int):Prop:=0<j/\j.natAbs<big
theorem UO.ok{i j:Int}(h:UO i j):IntMulOk i j:=by
 have h1:Builtin.Int.intBits i<=1000:=intBits_le_iff.mpr h.1;have h2:Builtin.Int.intBits j<=1000:=intBits_le_iff.mpr h.2;have h3:Builtin.Int.intTooBig ((Builtin.Int.intBits i:Int)+(Builtin.Int.intBits j:Int))=false:=by
  unfold Builtin.Int.intTooBig;refine decide_eq_false ?_;have h4:(2000:Int)<=(bitsLine:Int):=by decide +kernel
  omega
 unfold IntMulOk;rw[h3,Bool.and_false];exact Bool.false_ne_true
section
variable{X:Cx}
theorem Me:OpR X (binaryOp .Mult) (rI UO fun i j=>.int (i*j)):=opI fun _ _ _ _ _ _ _ hc q=>mul_int q hc.ok
theorem jY:OpR X (binaryOp .FloorDiv) (rI Nq fun i j=>.int (i/j)):=opI fun i j _ _ _ _ _ hc q=>by
 have h1:(0:Int)<j:=hc.1;refine floordiv_int (by omega) (by rw[Int.fdiv_eq_ediv_of_nonneg i (by omega)];exact q) (.inl (PyProof.noPylong_of_log2 ?_));have h2:j.natAbs.log2<1000:=(Nat.log2_lt (by omega)).mpr hc.2;omega
theorem Mu:MtR X "int.bit_length" (fun x xs H Q=>∃i,x=.int i/\xs=[]/\Q (.int (Builtin.Int.intBits i:Nat)) H):=by
 intro pins s Y H x xs v us Q I rx rs h;obtain⟨i,rfl,rfl,q⟩:=h;obtain⟨t,rfl⟩:=rx;cases rs;refine call_givesAt (P:=fun _=>True) PySem.F.slot_int_bit_length (typeIs_int s i t) PySem.F.entry_int_bit_length (PySem.F.args_int_bit_length_1 _) (PySem.AutoIntG2.int_bit_length_int_0 i t).at trivial ?_;exact⟨.int _,H,I.tok _,⟨_,rfl⟩,q⟩
structure FY(K:Frag)(C c:Addr)(b:Bool):Prop where
 cl:Cls K C
 ha:findIn K (.ref C) "__class__"=some (some (.builtin "object.__class__"))
 hn:specialIn K (.builtin "object.__class__") "__get__"=some (some (.builtin "getset_descriptor.__get__"))
 htk:takesIn K (.builtin "object.__class__")=some true
 hm:mroIn K C (.type "object")=some true
 one:kitOne K (.ref C) (.ref c)=some b
theorem JC:iQ X (.builtin "isinstance") (fun vs H Q=>∃a C dx fs c b,vs=[.ref a,.ref c]/\H a=some (.ins C dx fs)/\FY X.K C c b/\Q (.bl b) H):=by
 intro pins s Y H vs us Q I r h;obtain⟨a,C,dx,fs,c,b,rfl,ha,F,q⟩:=h;cases r with
 |cons r1 r2=>
  cases r2 with
  |cons r2 r3=>
   cases r3;obtain rfl:=(show _=Value.ref a from r1);obtain rfl:=(show _=Value.ref c from r2);exact E8 (x:=.ref a) I rfl (.ins ha F.cl F.ha F.hn F.htk F.hm) F.one fun tk=>⟨.bl b,H,I.tok tk,rfl,q⟩
end
theorem xQ{prog:Program}{w:World}{A:Around}{E:Value->Shared->Prop}{s:Shared}{T:String}{r d:Addr}{n:Nat}{P:Nat->Value->Prop}{OK:Heap->Prop}{ns:List Int}{Q:Value->Shared->Prop}(K:KdlSrc prog w T r d n P OK)(hh:A.handled=none)(hok:OK s.heap)(hn:n<=sizeLine)
  (hv:∀vs:List Value,vs.length=n->(∀(j:Nat)(v:Value),vs[j]?=some v->P j v)->IntsAre vs ns)
  (h:∀(D:Addr)(h1 h':Heap)(tk:Nat)(out:Array Value)(ns':List Int)(ep:Nat),(∀b o,s.heap.get? b=some o->h1.get? b=some o)->(∀b o,h1.get? b=some o->h'.get? b=some o)->h1.objs.size<=D->h'.get? D=some {cls:=.type "list",data:=.seq out ep}->IntsAre out.toList ns'->ns'.Perm ns->ns'.Pairwise (·<=·)->
   Q (.ref D) {s with heap:=h',toks:=tk}):wpAny (model prog w) A (call (.builtin "sorted") [.ref r]) Q E s:=by
 refine Calls.call_function_entry kind_sorted plain_sorted entry_sorted (args_sorted1 _) ?_;unfold Builtin.«sorted»;refine wpAny_bind (m:=checkCount "sorted" 1 1 _) (wpAny_pure ?_);refine wpAny_bind (kdu_collect (A:=A.in1) K hh hok hn fun h' tk acc hk ki=>?_);have hl:acc.toList.length=n:=by rw[Array.length_toList];exact ki.1
 refine wpAny_bind (wpAny_newList ?_ (by rw[hl];exact hn));have hI:=hv acc.toList hl fun j v e=>ki.2 j v (by rw[<-Array.getElem?_toList];exact e)
 have hoL:(h'.push {cls:=.type "list",data:=.seq acc.toList.toArray}).get? h'.objs.size=some (seqObj "list" acc.toList.toArray 0):=Heap.get?_push_size _ rfl;refine wpAny_bind (wpAny_holding (wpAny_call_entry slot_list_sort ⟨_,hoL,rfl⟩ entry_list_sort (list_sort_treeAny hoL hI (by rw[hl];exact hn) fun out ns' h1 h2 h3=>⟨_,rfl,?_⟩) (args_list_sort _)));obtain⟨ep,he⟩:=sortedHeap_at (vs:=acc.toList) (out:=out) hoL;refine wpAny_pure ⟨_,rfl,h h'.objs.size h' _ tk out ns' ep hk (fun b o hb=>?_) (le_refl _) he h1 h2 h3⟩;have lt:=Heap.lt_size hb;rw[sortedHeap_old (ne_of_lt lt) (by rw[size_push'];exact lt_succ_of_lt lt)];exact Heap.get?_push_of_some _ hb
theorem Fb{P:Program}{w:World}{kvs:List (Int×V)}{vs:List (Key×Value)}(hv:KV (kvs.map fun p=>((Sum.inl p.1:Key),p.2)) vs){us:List Value}(hl:us.length=vs.length)
  (h:∀(j:Nat)(v:Value),us[j]?=some v->∃k x,vs[j]?=some (k,x)/\(bt P w).is k v=true):IntsAre us (kvs.map (·.1)):=by
 induction kvs generalizing vs us with
 |nil=>
  cases hv;cases us with
  |nil=>exact .nil
  |cons a b=>cases hl
 |cons p r ih=>
  obtain⟨pk,pv⟩:=p;cases hv with
  |@cons _ q _ qs e t=>
   cases us with
   |nil=>cases hl
   |cons u us=>
    obtain⟨k,x,h1,h2⟩:=h 0 u rfl;have h1:q=(k,x):=Option.some.inj h1;subst h1;have e1:(Sum.inl pk:Key)=k:=e.1;subst e1;obtain⟨t',e2⟩:=Value.isInt_shape (k:=pk) (v:=u) h2;subst e2;exact .cons pk t' (ih t (by simpa using hl) fun j v e=>h (j+1) v e)
def Hw:List V->Hp->VK->Prop:=fun vs H Q=>∃(a:Addr)(kvs:List (Int×V)),vs=[V.ref a]/\Rd H a (.dK (kvs.map fun p=>((Sum.inl p.1:Key),p.2)))/\
 ∀(ns':List Int)(p:Addr),ns'.Perm (kvs.map (·.1))->ns'.Pairwise (·<=·)->H p=none->Q (.ref p) (upd H p (.lst (ns'.map V.int)))
theorem Cg{X:Cx}(hc:X.calm=true):iQ X (.builtin "sorted") Hw:=by
 intro pins s Y H vs us Q I r h;obtain⟨a,kvs,rfl,ha,q⟩:=h;rw[Vals.RM r];obtain⟨hl,lo,vs,rv,dd⟩:=ha.ok I.hok;obtain⟨ep,da⟩:=dd.dictAt;have hlen:vs.length=kvs.length:=by rw[<-Paired.length rv,length_map]
 refine xQ (ns:=kvs.map (·.1)) (kdl_dict (kvs:=vs) (ep:=ep) (knd:=bt X.prog X.w) lo) (I.ok.hd hc) da (by rw[hlen];simpa using hl) (fun us h1 h2=>Fb rv h1 h2) fun D h1 h' tk out ns' ep' k1 k2 hD he i1 i2 i3=>?_
 have I1:Inv X pins Y H {s with heap:=h1,toks:=tk}:=I.kept k1;refine⟨.ref D,upd H D (.lst (ns'.map V.int)),I1.laid (t':=tk) (h':=h') k2 hD ⟨?_,out.toList,ep',md i1,by simpa using he⟩,rfl,q ns' D i2 i3 (I1.hok.fresh hD)⟩;rw[length_map,i2.length_eq,length_map];simpa using hl
end L2
namespace L2
open PySem PySem.Spec PyProof.Rows
section
variable{X:Cx}
def U0(ta:TA):TE:=fun Y H Q=>ta Y H fun vs H1=>∃n:Nat,vs=[.int n]/\n<=2^24/\∀l,H1 l=none->Q (.ref l) (upd H1 l (.lst ((List.range n).map fun k=>V.int (k:Nat))))
theorem Ht{n:Nat}{acc:Array Value}(h:ItemsOf (fun i v=>∃t,v=.int (0+i*1) t) acc n):Vals ((List.range n).map fun k=>V.int (k:Nat)) acc.toList:=by
 have go:∀(xs:List V)(us:List Value),xs.length=us.length->(∀(i:Nat) v u,xs[i]?=some v->us[i]?=some u->RelV v u)->Vals xs us:=by
  intro xs;induction xs with
  |nil=>
   intro us hl _;cases us with
   |nil=>exact .nil
   |cons _ _=>cases hl
  |cons x r ih=>
   intro us hl hv;cases us with
   |nil=>cases hl
   |cons u r'=>exact .cons (hv 0 _ _ rfl rfl) (ih r' (by simpa using hl) fun i v u h1 h2=>hv (i+1) v u h1 h2)
 refine go _ _ (by simp[h.1]) fun i v u h1 h2=>?_
 rw[List.getElem?_map]at h1;obtain⟨k,hk,rfl⟩:=map_eq_some_iff.mp h1;obtain⟨hi,rfl⟩:=List.getElem?_eq_some_iff.mp hk;rw[List.getElem_range];obtain⟨t,rfl⟩:=h.2 i u (by simpa using h2);exact⟨t,by simp⟩
theorem Mb{e:Expr}{ta:TA}{p p2 pos Ma:Pos}(hg:Gl X "list")(hm:X.mg "list"=none)(hg2:Gl X "range")(hm2:X.mg "range"=none)(ha:PA X [e] ta)(hc:X.calm=true:=by rfl)(hs:starEach [e] X.env=[(false,eval e X.env)]:=by rfl)
  (hs2:starEach [.Call (.Name "range" p2) [e] [] Ma] X.env=[(false,eval (.Call (.Name "range" p2) [e] [] Ma) X.env)]:=by rfl):PE X (.Call (.Name "list" p) [.Call (.Name "range" p2) [e] [] Ma] [] pos) (U0 ta):=by
 intro pins s Y H Q I h;refine Call_ (jh I hg hm (show bootBuiltins "list"=some (.type "list") by decide +kernel) (PyProof.Rows.callWith_type1 ?_ hs2 rfl));rw[hs2];refine Calls.spliced_cons (Call_ (jh I hg2 hm2 boot_range (PyProof.Rows.callWith_type1 (thn (ha Ma pins s Y H _ I h) fun us s1 hZ=>?_) hs rfl)));obtain⟨vs,H1,I1,r1,q1⟩:=hZ;obtain⟨n,rfl,hn,q⟩:=q1;obtain⟨u,rfl,t,rfl⟩:=vals1 r1;refine call_range_1 (Calls.spliced_nil ?_);have I2:Inv X pins Y H1 {s1 with heap:=s1.heap.push {cls:=.type "range",data:=.fields #[.int 0 s1.toks,.int n t,.int 1 (s1.toks+1)]},toks:=s1.toks+1+1}:=I1.kept fun b o e=>Heap.get?_push_of_some _ e
 refine call_list_range (I2.ok.hd hc) (IsRange.new ..) (small_one (by omega) (by omega) (by omega) (by omega)) (n:=n) (by rw[rangeSize_one];split<;>omega) hn fun h' tk YI c' kp e hit=>?_
 refine⟨.ref _,_,I2.laid (t':=tk) kp (le_refl _) (show b9 X.prog X.w _ h' _ (.lst _)from⟨?_,YI.toList,c',Ht hit,by simpa using e⟩),rfl,q _ (I2.hok.fresh (le_refl _))⟩;rw[length_map,length_range,sizeLine_eq];omega
end
theorem MZ{K:Frag}{a:Addr}{xs:List V}{g:TG}{tb:TS}{D:Ends}{Y:St}{H:Hp}(Pv:Nat->St->Hp->Prop)(h0:Pv 0 Y H)(hl:∀i Y H,Pv i Y H->SqL K H a xs)
  (hs:∀i x Y H,i<xs.length->xs[xs.length-1-i]?=some x->Pv i Y H->g x Y H fun Y2 H2=>tb {D with nx:=Pv (i+1),ct:=Pv (i+1),bk:=D.nx} Y2 H2) (hd:∀Y H,Pv xs.length Y H->D.nx Y H):
  ∃W:Nat->Nat->St->Hp->Prop,(∃m,W 0 m Y H)/\∀i m Y H,W i m Y H->
   ((Itv K a xs.length).stop i H/\D.nx Y H)\/((Itv K a xs.length).go i H/\∃N:St->Hp->Prop,(∀Y' H',N Y' H'->∃m',m'<m/\W (i+1) m' Y' H')/\∀x H',(Itv K a xs.length).yld i H x H'->g x Y H' fun Y2 H2=>tb {D with nx:=N,ct:=N,bk:=D.nx} Y2 H2):=by
 refine⟨fun i m Y H=>m=xs.length-i/\i<=xs.length/\Pv i Y H,⟨_,rfl,zero_le _,h0⟩,?_⟩;rintro i m Y H ⟨rfl,hi,p⟩;by_cases hlt:i<xs.length
 .refine .inr ⟨⟨hlt,xs,_,hl i Y H p,List.getElem?_eq_getElem (by omega)⟩,Pv (i+1),fun Y' H' p'=>⟨xs.length-(i+1),by omega,rfl,hlt,p'⟩,fun x H' y=>?_⟩;obtain⟨e,y⟩:=y;subst e;exact hs i x Y _ hlt (y xs (hl i Y _ p)) p
 .have e:i=xs.length:=by omega
  subst e;exact .inl ⟨le_refl _,hd Y H p⟩
end L2
namespace L2
open PySem PySem.Spec PyProof.Rows PySem.W
theorem HP{X:Cx}{CX:CXT}{k:Nat}{f:Addr}{fd:FuncData}{ps:List Str}{sp:Sp}{E:XK}{x:Str}{p pos:Pos}{e:Expr}{es:List Expr}{t:TA}(i:Nat)(F:eF X.prog X.w X.K X.mg X.base CX k f fd ps sp)(hr:ed k X.A)(hk:FnAt f X.base)(hb:Binds X.K fd ps [])(hx:Passes CX X E)(ha:PA X (e::es) t)
  (hN:X.N[i]?=some x:=by rfl) (hv:Vis X.env.scope x:=by first|exact Or.inl rfl|exact Or.inr (Or.inl rfl)|exact Or.inr (Or.inr rfl)) (hd:(x==("__debug__":Str))=false:=by decide) (hcd:(x==("__classdict__":Str))=false:=by decide)
  (he:starEach (e::es) X.env=(false,eval e X.env)::starEach es X.env:=by rfl) (hpl:(backTo pos (starEach es X.env)).any (·.1)=false:=by rfl):
  PE X (.Call (.Name x p) (e::es) [] pos) (QZ i f sp E t):=by
 intro pins s Y H Q I h;obtain⟨hs,h⟩:=h;refine wpAny_Call_Name_kw ?_;obtain⟨m,hn,hl⟩:=I.loc;obtain⟨u,r,l⟩:=hl i x _ hN hs hv;obtain rfl:u=Value.ref f:=r;have at_:∀{pins Y H s},Inv X pins Y H s->FnAt f s.heap:=fun I=>let ⟨a,b,c,d,e⟩:=hk;⟨a,b,c,d,I.bk _ _ e⟩
 have go:wpAny (model X.prog X.w) X.A (callWith pos (.ref f) [] (backTo pos (starEach (e::es) X.env)) []) (EP X pins Y Q) X.xe s:=by
  refine callWith_F (at_ I) (thn (ha pos pins s Y H _ I h) fun us s1 ⟨vs,H1,I1,r,q⟩=>⟨at_ I1,?_⟩) he hpl;exact vM (dvs:=[]) F hr hb .nil hx I1 r (by rw[append_nil];exact q)
 rcases l with⟨hk2,hm⟩|⟨hk2,c,hc,rQ⟩
 .exact wpAny_Name (wpAny_loadName_local I.ok.kind hk2 hn hm go) hd
 .rcases hk2 with hk2|hk2
  .exact wpAny_Name (wpAny_loadName_cell I.ok.kind hk2 hc rQ go) hd
  .exact wpAny_Name (wpAny_loadName_free I.ok.kind hk2 hc rQ go hcd) hd
structure An(h:Heap)(f:Addr)(fd:FuncData)(qual:Str)(params:Arguments)(body:Expr)(scope:Scope)(frees:List Str)(vf:List V):Prop where
 ex:∃eh pm c' ctv,fd=kla_fn "<lambda>" qual params body scope eh pm (.ref c') ctv/\h.get? f=some (kla_obj "<lambda>" qual params body scope eh pm c' ctv)/\h.CodeRec (.ref c') qual/\
  (∀x y c,eh.lookup x=some c->eh.lookup y=some c->x=y)/\(∀x c,eh.lookup x=some c->∃v,h.IsCell c v)/\(∀x,scope.names.lookup x=some .free->∃c,eh.lookup x=some c)/\
  ∀(i:Nat)(y:Str)(v:V),frees[i]?=some y->vf[i]?=some v->∃c u,eh.lookup y=some c/\h.IsCell c (some u)/\RelV v u
theorem An.fnAt{h:Heap}{f:Addr}{fd:FuncData}{qual:Str}{params:Arguments}{body:Expr}{scope:Scope}{frees:List Str}{vf:List V}(L:An h f fd qual params body scope frees vf):FnAt f h:=by
 obtain⟨eh,pm,c',ctv,rfl,e,_⟩:=L.ex;exact⟨_,_,_,_,e⟩
structure Kk(x:Str)(frees:List Str)(sc:Scope):Prop where
 kind:sc.kind=.function
 co:sc.isCoroutine=false
 gen:sc.isGenerator=false
 par:sc.names.lookup x=some .local
 fr:∀y∈frees,sc.names.lookup y=some .free
 Ie:∀y∈sc.names,y.2≠.cell
theorem rA{l:List (Str×NameKind)}{x:Str}(h:∀y∈l,y.2≠.cell):l.lookup x≠some .cell:=fun e=>h _ (PySem.mem_of_lookup e) rfl
def Jr(CX:CXT)(P:Program)(w:World)(K:Frag)(mg:Str->Option Value)(base:Heap)(N:List Str)(qual:Str)(scope:Scope)(f:Addr)(cd:Value)(eh:List (Str×Addr))(A:Around)(outer:List Env)(s:Shared)(H:Hp)(E:XK):Cx where
 prog:=P
 w:=w
 K:=K
 mg:=mg
 base:=base
 A:=A.deeper (envX qual scope s.heap.objs.size f cd eh)
 N:=N
 s₀:=s
 H₀:=H
 env:=envX qual scope s.heap.objs.size f cd eh
 outer:=outer
 stack:=envX qual scope s.heap.objs.size f cd eh::outer
 ex:=[]
 calm:=true
 fn:=fun _=>false
 pn:=[]
 xe:=fun e s'=>wpAny (model P w) (A.deeper (envX qual scope s.heap.objs.size f cd eh)) (leaving (envX qual scope s.heap.objs.size f cd eh) e) (fun _ s''=>CX outer H s E e s'') (fun e' s''=>CX outer H s E e' s'') s'
theorem Uv{CX:CXT}{P:Program}{w:World}{K:Frag}{mg:Str->Option Value}{base:Heap}{k:Nat}{f:Addr}{fd:FuncData}{qual x:Str}{params:Arguments}{body:Expr}{scope:Scope}{frees:List Str}{vf:List V}{sp:Sp}
  (L:An base f fd qual params body scope frees vf) (S:Kk x frees scope) (nd:(x::frees).Nodup) (hvf:vf.length=frees.length) (len:∀vs H Q E,sp vs H Q E->vs.length=1)
  (kh:∀(cd:Value)(eh:List (Str×Addr))(A:Around)(outer:List Env)(s:Shared)(H:Hp)(v:V)(Q:VK)(E:XK),ed k (A.deeper (envX qual scope s.heap.objs.size f cd eh))->sp [v] H Q E->
   ∃t,PE (Jr CX P w K mg base (x::frees) qual scope f cd eh A outer s H E) body t/\t (some v::vf.map some) H Q):
  eF P w K mg base CX (k+1) f fd [x] sp:=by
 obtain⟨eh,pm,c',ctv,rfl,hf,hcd,X8,I0,MP,Fe⟩:=L.ex;refine⟨fun vs H Q E h=>len _ _ _ _ h,fun A outer s H args us vs Q E hr e0 hb r hsp=>?_⟩;have keep:∀b o,base.get? b=some o->s.heap.get? b=some o:=fun b o e=>(e0.bs b o e).1
 have lim:s.heap.NoLimit:=e0.mod.nolimit.keeps keep;have hl:=len _ _ _ _ hsp;obtain⟨v,rfl⟩:∃v,vs=[v]:=by
  match vs,hl with
  |[v],_=>exact⟨v,rfl⟩
 obtain⟨u,rfl,ru⟩:=vals1 r;have Yo:s.heap.CodeRec (.ref c') qual:=let ⟨c,o,vs,t,e1,e2,e3⟩:=hcd;⟨c,o,vs,t,e1,keep _ _ e2,e3⟩;refine kla_callFunE hr.depth (keep _ _ hf) rfl S.co S.gen rfl Yo (hb _ _ _ _ ?_);refine wpAny_newFunctionEnv S.Ie (fun y hy=>?_) (fun h₁ hns hsb=>?_) S.kind
 .have e:y=(x,u):=by simpa using hy
  subst e;exact S.par
 have hk₁:∀b o,s.heap.get? b=some o->h₁.get? b=some o:=fun b o e=>hsb.extBut b o (ne_of_lt (Heap.lt_size e)) (Heap.get?_push_of_some _ e)
 refine⟨lim.keeps hk₁,kla_codeExpr ?_⟩;obtain⟨t,ht,hq⟩:=kh (.ref c') eh A outer s H v Q E (hr.deeper _) hsp;have noA:∀b:Addr,b∉(Jr CX P w K mg base (x::frees) qual scope f (.ref c') eh A outer s H E).ex:=fun b z=>absurd (show b∈([]:List Addr)from z) (by simp)
 have Pj:∀{c v},base.IsCell c v->h₁.IsCell c v:=fun z=>z.keeps fun b o e=>hk₁ b o (keep b o e)
 have I:Inv (Jr CX P w K mg base (x::frees) qual scope f (.ref c') eh A outer s H E) [] (some v::vf.map some) H {s with heap:=h₁,toks:=s.toks+([x].zip [u]).length}:=by
  refine⟨⟨e0.mod,S.kind,rfl,rfl,le_refl _,X8,fun y hy=>?_,fun y c z=>absurd (show false=true from z) Bool.false_ne_true,fun _=>hr.hd,Around.frames_deeper e0.frames,.inr ⟨rfl,rfl⟩,fun b z=>absurd z (noA b),e0.bs,e0.bsz,fun b _ _=>noA b,fun b z=>absurd z (noA b),e0.jE,e0.frf⟩,
   rfl,e0.bare,Un.kept hk₁,⟨_,hns,fun i y z h1 h2 h3=>?_⟩,fun y c h=>?_,e0.hok.fresh (le_refl _),fun y c h=>?_,fun p hp=>absurd (show p∈([]:List (Addr×Obj))from hp) (by simp),e0.hok.kept hk₁,?_⟩
  .have hy:scope.names.lookup y=some .cell\/scope.names.lookup y=some .free:=hy;rcases hy with hy|hy
   .exact absurd hy (rA S.Ie)
   .exact MP y hy
  .cases i with
   |zero=>
    have e1:x=y:=Option.some.inj h1;have e2:v=z:=Option.some.inj (Option.some.inj h2);subst e1;subst e2;exact⟨u,ru,.inl ⟨S.par,by simp⟩⟩
   |succ i=>
    have h1:frees[i]?=some y:=h1;have h2:(vf.map some)[i]?=some (some z):=h2;rw[List.getElem?_map]at h2;cases e:vf[i]? with
    |none=>rw[e]at h2;cases h2
    |some q=>
     rw[e]at h2;cases h2;obtain⟨c,u',e1,e2,e3⟩:=Fe i y z h1 e;exact⟨u',e3,.inr ⟨.inr (S.fr y (mem_of_getElem? h1)),c,e1,Pj e2⟩⟩
  .obtain⟨z,hz⟩:=I0 y c h;exact⟨z,Pj hz⟩
  .obtain⟨z,o,ho,_⟩:=I0 y c h;exact(e0.bs c o ho).2
  .show(some v::vf.map some).length=(x::frees).length;simp[hvf]
 refine wpAny_mono (ht [] _ _ H _ I hq) (fun u' s' hZ=>?_) fun e s' hs=>hs
 obtain⟨v',H',J,rv,q⟩:=hZ;exact⟨v',H',J.os,J.bare,J.base,J.hok,rv,q⟩
theorem funFrames_base{h base Ad:Heap}:∀{l:List Env},(∀b∈frs l,Ad.get? b=none)->h.FunFrames base l->h.FunFrames Ad l
 |[],_,_=>trivial
 |env::r,hb,hl=>by
  obtain⟨hk,⟨L,o,hf,hn,ho,hd⟩,hr⟩:=hl;exact⟨hk,⟨L,o,hf,hb L (by unfold frs;rw[filterMap_cons,hf];exact mem_cons_self),ho,hd⟩,
   funFrames_base (fun b hb'=>hb b (by unfold frs;rw[filterMap_cons,hf];exact mem_cons_of_mem _ hb')) hr⟩
def kB(s:Shared)(H:Hp)(st:List Env):Heap:=hideAll s.heap (trk s.heap H++frs st)
theorem kQ{s:Shared}{H:Hp}{st:List Env}{b:Addr}{o:Obj}(e:s.heap.get? b=some o)(n:H b=none)(nf:b∉frs st):(kB s H st).get? b=some o:=
 hideAll_get _ e fun hm=>by
  rcases mem_append.mp hm with z|z
  .have q:(H b).isSome=true:=(mem_filter.mp z).2;rw[n]at q;simp at q
  .exact nf z
theorem qV{s:Shared}{H:Hp}{st:List Env}{b:Addr}{o:Obj}(e:(kB s H st).get? b=some o):s.heap.get? b=some o/\H b=none/\b∉frs st:=by
 have e':s.heap.get? b=some o:=of_hideAll _ e;refine⟨e',?_,fun z=>?_⟩
 .cases q:H b with
  |none=>rfl
  |some x=>
   have hm:b∈trk s.heap H:=mem_filter.mpr ⟨mem_range.mpr (Heap.lt_size e'),by simp[q]⟩;have z:(kB s H st).get? b=none:=hideAll_none _ (mem_append_left _ hm);rw[z]at e;cases e
 .have z:(kB s H st).get? b=none:=hideAll_none _ (mem_append_right _ z);rw[z]at e;cases e
theorem Inv.FX{X:Cx}{pins:List (Addr×Obj)}{Y:St}{H:Hp}{s:Shared}(I:Inv X pins Y H s){b:Addr}{o:Obj}(e:X.base.get? b=some o):(kB s H X.stack).get? b=some o:=
 kQ (I.bs b o e).1 (I.bs b o e).2 fun z=>by
  rcases mem_cons.mp (I.jQ b z)with q|q
  .exact absurd (lt_of_lt_of_le (Heap.lt_size e) (le_trans I.ok.bsz I.ok.above)) (by rw[q];exact lt_irrefl _)
  .exact I.ok.Vw e q
theorem Inv.Ux{X:Cx}{pins:List (Addr×Obj)}{Y:St}{H:Hp}{s:Shared}(I:Inv X pins Y H s):Ap X.prog X.w X.K X.mg (kB s H X.stack) X.A X.stack s H:=by
 have sub:∀b o,X.base.get? b=some o->(kB s H X.stack).get? b=some o:=fun b o e=>I.FX e
 have nsK:∀{b:Addr}{m:Str->Option Value},X.base.Ns b m->(kB s H X.stack).Ns b m:=fun{b m} ⟨o,es,ep,e,r⟩=>⟨o,es,ep,sub _ _ e,r⟩
 refine⟨I.ok.frames,⟨I.ok.mod.kin.keeps sub,nsK I.ok.mod.glob,let ⟨mb,a,b⟩:=I.ok.mod.blt;⟨mb,nsK a,b⟩,I.ok.mod.nolimit.keeps sub⟩,fun b o e=>⟨(qV e).1,(qV e).2.1⟩,le_of_eq (hideAll_size _ _),?_,I.pK,I.hok,I.bare⟩;refine funFrames_base (fun b hb=>?_) I.stack;cases q:(kB s H X.stack).get? b with
 |none=>rfl
 |some o=>exact absurd hb (qV q).2.2
theorem IH{X:Cx}{pins:List (Addr×Obj)}{Y:St}{H:Hp}{s:Shared}{M:Model}{E:Value->Shared->Prop}{Q:Value->Shared->Prop}{c pt:Addr}{params:Arguments}{body:Expr}{scope:Scope}{eh:List (Str×Addr)}{pos:Pos}(I:Inv X pins Y H s)
  (g0:X.env.code=.ref c) (C:CodeHd X.base c pt) (hB:X.base.BuiltinsAt X.mg pt) (hP:H pt=some (.tbl #[])) (hcl:closureFor scope X.env=pure eh) (Um:defaultsOf params X.env=([],[]))
  (h:∀f c' ctv s' tb,Inv X pins Y (upd H pt (.tbl tb)) s'->s'.heap.get? f=some (kla_obj "<lambda>" (X.env.qual++"<lambda>") params body scope eh ((X.mg "__name__").getD .none) c' ctv)->s'.heap.CodeRec (.ref c') (X.env.qual++"<lambda>")->
   s.heap.objs.size<=c'->s.heap.objs.size<=f->(∀b o,b≠pt->s.heap.get? b=some o->s'.heap.get? b=some o)->Q (.ref f) s'):
  wpAny M X.A (eval (.Lambda params body scope pos) X.env) Q E s:=by
 have hps:s.heap.get? pt=some (tabObj #[]):=I.hok pt _ hP;have hgP:mainGlobals≠pt:=fun z=>by
  obtain⟨o,es,ep,e,_⟩:=I.ok.mod.glob;have:=(I.bs _ _ e).2;rw[z,hP]at this;cases this
 have hB':s.heap.BuiltinsAt X.mg pt:=let ⟨bm,o,a,b,c,d,e,r⟩:=hB;⟨bm,o,a,b,c,d,I.bk _ _ e,r⟩;have hg:s.heap.Ns mainGlobals X.mg:=let ⟨o,es,ep,e,r⟩:=I.ok.mod.glob;⟨o,es,ep,I.bk _ _ e,r⟩;refine kla_eval Um (kla_makeFunction hcl I.ok.glob hg g0 (C.keeps I.bk) hps trivial rfl hgP hB' fun c' ctv h' tk hx hge hlt T9 htb=>?_);have kp:∀{o':Obj} b o,b≠pt->s.heap.get? b=some o->(h'.push o').get? b=some o:=fun b o nb e=>Heap.get?_push_of_some _ (hx b o nb e)
 have neP:∀b,H b=none->b≠pt:=fun b n z=>by rw[z,hP]at n;cases n
 have neT:∀b u,H b=some u->(∀ps,u≠.tbl ps)->b≠pt:=fun b u e n z=>by rw[z,hP]at e;cases e;exact n _ rfl
 refine h h'.objs.size c' ctv _ (#[]++#[rawInt pos.line,rawInt pos.col,.ref c']) ?_ (Heap.get?_push_size _ rfl) (let ⟨c2,o,vs,t,e1,e2,e3⟩:=T9;⟨c2,o,vs,t,e1,Heap.get?_push_of_some _ e2,e3⟩) hge (le_of_lt (lt_of_le_of_lt hge hlt)) kp;refine I.step (g':=s.gens) (d':=s.drawn) (ch:=[]) (fun _ z=>nomatch z) (fun b o _ _ _ e n=>kp b o (neP b n) e) (fun b o _ _ _ e n=>⟨o.slots,kp b o (neP b n) e⟩) (fun b o _ _ n=>by rw[aq (neP b n)];exact n) (fun b o _ e=>?_)
  (fun b xs e=>by rw[aq (neT b _ e fun _ z=>nomatch z)];exact e) (fun b o u e=>by rw[aq (neT b _ e fun _ z=>nomatch z)];exact e) (fun b ps e=>?_) (fun m hm=>?_) (fun b u e=>?_) I.bare
 .by_cases hb:b=pt
  .subst hb;exact⟨_,Heap.get?_push_of_some _ htb⟩
  .exact⟨o,kp b o hb e⟩
 .by_cases hb:b=pt
  .subst hb;rw[hP]at e;cases e;exact⟨_,ae⟩
  .exact⟨#[],by rw[aq hb,e];simp⟩
 .obtain⟨o,es,ep,ho,r⟩:=hm;exact⟨o,es,ep,kp _ o (neP _ I.free) ho,r⟩
 .by_cases hb:b=pt
  .subst hb;rw[ae]at e;cases e;exact Heap.get?_push_of_some _ htb
  .rw[aq hb]at e;refine(I.hok b u e).nN (fun c2 v hc q=>kp c2 v ?_ q) (fun c2 q=>by rw[aq (neT c2 _ q fun _ z=>nomatch z)];exact q) fun c2 xs q=>by rw[aq (neT c2 _ q fun _ z=>nomatch z)];exact q
   rcases hc with z|z
   .rw[z];exact hb
   .exact neT c2 _ z fun _ q=>nomatch q
def WQ(N:List Str)(i:Nat)(pt:Addr)(frees:List Str)(sp:List V->Addr->Sp)(E:XK):TE:=fun Y H Q=>∃v vf,Y[i]?=some (some v)/\H pt=some (.tbl #[])/\vf.length=frees.length/\
 (∀(j:Nat)(y:Str)(z:V),frees[j]?=some y->vf[j]?=some z->∃l:Nat,N[l]?=some y/\Y[l]?=some (some z))/\∀f H',(∀b o,b≠pt->H b=some o->H' b=some o)->H' f=none->sp vf f [v,.ref f] H' Q E
theorem RV{X:Cx}{CX:CXT}{k:Nat}{gf c pt:Addr}{fdg:FuncData}{ps:List Str}{sp:List V->Addr->Sp}{E:XK}{g x:Str}{p p1 pos lp:Pos}{params:Arguments}{body:Expr}{scope:Scope}{eh:List (Str×Addr)}{frees:List Str}(i:Nat)
  (F:∀(base:Heap)(vf:List V)(f:Addr)(fd:FuncData),X.K.In base->base.Ns mainGlobals X.mg->An base f fd (X.env.qual++"<lambda>") params body scope frees vf->vf.length=frees.length->eF X.prog X.w X.K X.mg base CX k gf fdg ps (sp vf f))
  (hr:ed k X.A) (hg:Gl X g) (hm:X.mg g=some (.ref gf)) (hk:keepIn X.K (.ref gf)=true) (hb:Binds X.K fdg ps []) (hx:Passes CX X E)
  (g0:X.env.code=.ref c) (C:CodeHd X.base c pt) (hB:X.base.BuiltinsAt X.mg pt) (hcl:closureFor scope X.env=pure eh) (Um:defaultsOf params X.env=([],[]))
  (yH:∀y c,eh.lookup y=some c->X.env.cells.lookup y=some c) (MP:∀y,scope.names.lookup y=some .free->∃c,eh.lookup y=some c) (hfr:∀y∈frees,X.env.kindOf y=some .cell/\scope.names.lookup y=some .free) (hfn:∀y,X.fn y=true)
  (hN:X.N[i]?=some x:=by rfl) (hv:Vis X.env.scope x:=by first|exact Or.inl rfl|exact Or.inr (Or.inl rfl)|exact Or.inr (Or.inr rfl)) (hd:(x==("__debug__":Str))=false:=by decide) (hcd:(x==("__classdict__":Str))=false:=by decide) (hdb:(g==("__debug__":Str))=false:=by decide):
  PE X (.Call (.Name g p) [.Name x p1,.Lambda params body scope lp] [] pos) (WQ X.N i pt frees sp E):=by
 intro pins s Y H Q I h;obtain⟨v,vf,hs,hP,hvf,Fe,hq⟩:=h;refine wpAny_Call_Name_kw (gY I hg hm ?_ hdb);refine callWith_K (h₀:=X.base) I.ok.mod.kin hk ?_ rfl rfl;show wpAny _ _ (spliced ((false,eval (.Name x p1) X.env)::backTo pos (starEach [.Lambda params body scope lp] X.env))) _ _ s;refine Calls.spliced_cons (thn ((HK hN hv hd hcd:PE X (.Name x p1) (cU i)) pins s Y H (fun v' H'=>v'=v/\H'=H) I ⟨v,hs,rfl,rfl⟩) fun u s1 hZ=>?_);obtain⟨v',H1,I1,r1,ev,eH⟩:=hZ;subst ev;subst eH;show wpAny _ _ (spliced ((false,eval (.Lambda params body scope lp) X.env)::[])) _ _ s1;refine Calls.spliced_cons (IH I1 g0 C hB hP hcl Um fun f c' ctv s2 tb I2 hf T9 hc' hf' YO=>Calls.spliced_nil ⟨I2.kIn,?_⟩);have nf:∀b,s1.heap.objs.size<=b->b∉frs X.stack:=fun b hb z=>by
  rcases mem_cons.mp (I1.jQ b z)with q|q
  .exact absurd (lt_of_lt_of_le I1.lt (by rw[<-q];exact hb)) (lt_irrefl _)
  .exact I1.Vv hb q
 have Xc:pt<s1.heap.objs.size:=Heap.lt_size (show s1.heap.get? pt=some (tabObj #[])from I1.hok pt _ hP);have fresh:∀b,s1.heap.objs.size<=b->upd H1 pt (.tbl tb) b=none:=fun b hb=>by
  rw[aq (show b≠pt from fun z=>absurd (lt_of_lt_of_le Xc (by rw[<-z];exact hb)) (lt_irrefl _))];exact I1.hok.fresh hb
 have cellIn:∀y c,eh.lookup y=some c->∀z,s2.heap.IsCell c z->(kB s2 (upd H1 pt (.tbl tb)) X.stack).IsCell c z:=fun y c e z ⟨o,ho,hd⟩=>by
  refine⟨o,kQ ho (I2.fw y c (yH y c e)) fun q=>?_,hd⟩;rcases mem_cons.mp (I2.jQ c q)with q|q
  .exact I2.cne y c (yH y c e) q
  .obtain⟨_,o',ho',_⟩:=I2.ok.jE.mem q;have h1:=I2.ok.cab y c (hfn y) (yH y c e);exact absurd (lt_of_lt_of_le (Heap.lt_size ho') h1) (lt_irrefl _)
 have L:An (kB s2 (upd H1 pt (.tbl tb)) X.stack) f (kla_fn "<lambda>" (X.env.qual++"<lambda>") params body scope eh ((X.mg "__name__").getD .none) (.ref c') ctv) (X.env.qual++"<lambda>") params body scope frees vf:=by
  refine⟨eh,_,c',ctv,rfl,kQ hf (fresh f hf') (nf f hf'),?_,fun y z c h1 h2=>I2.ok.inj y z c (yH _ _ h1) (yH _ _ h2),fun y c e=>?_,MP,fun j y z h1 h2=>?_⟩
  .obtain⟨c2,o,vs,t,e1,e2,e3⟩:=T9;cases e1;exact⟨c',o,vs,t,rfl,kQ e2 (fresh c' hc') (nf c' hc'),e3⟩
  .obtain⟨z,hz⟩:=I2.cell y c (yH y c e);exact⟨z,cellIn y c e z hz⟩
  .obtain⟨l,h3,h4⟩:=Fe j y z h1 h2;obtain⟨m,_,hl⟩:=I2.loc;have hkk:=hfr y (mem_of_getElem? h1);obtain⟨u',r',look⟩:=hl l y z h3 h4 (.inr (.inl hkk.1));obtain⟨c2,e2⟩:=MP y hkk.2;rcases look with⟨q,_⟩|⟨_,c3,e3,e4⟩
   .rw[hkk.1]at q;cases q
   .have e5:=yH y c2 e2;have e6:c3=c2:=Option.some.inj (e3.symm.trans e5);subst e6;exact⟨c3,u',e2,cellIn y c3 e2 _ e4,r'⟩
 have FF:=F _ vf f _ I2.Ux.mod.kin I2.Ux.mod.glob L hvf;have hsp:=hq f (upd H1 pt (.tbl tb)) (fun b o nb e=>by rw[aq nb];exact e) (fresh f hf');have r2:Vals [v',.ref f] [u,.ref f]:=.cons r1 (.cons rfl .nil);have hl2:([u,.ref f]++([]:List Value)).length=ps.length:=by
  have e:=FF.len _ _ _ _ hsp;have e2:=r2.length;simp only[append_nil];omega
 have hbb:=hb s2 [u,.ref f] I2.kIn hl2;refine wpAny_call (codeAny_mono (FF.run X.A X.stack s2 _ ⟨[u,.ref f],[]⟩ [u,.ref f] [v',.ref f] Q E hr I2.Ux (by simpa using hbb) r2 hsp) fun r s' hq=>?_);cases r with
 |error e=>exact hx pins Y _ s2 e s' I2 hq
 |ok fl=>
  cases fl with
  |ret u=>exact I2.after hq
  |next=>exact False.elim hq
  |brk=>exact False.elim hq
  |cont=>exact False.elim hq
end L2
namespace L2
open PySem PySem.Spec PyProof.Rows
def KTu(K:Frag)(g:Addr)(xs:List V):Prop:=∀H:Hp,SqT K H g xs
end L2
namespace Pg
open PySem L2
def top(i:Nat):Stmt:=PySem.Challenge.pw_shapedots_s02_paint.main.body.getD i (.Pass ⟨0,0,0,0⟩)
abbrev Og:Stmt:=top 11
abbrev Om:Stmt:=top 12
abbrev OB:Stmt:=top 17
abbrev OX:Stmt:=top 18
abbrev Ol:Stmt:=top 19
abbrev O8:Stmt:=top 20
abbrev O7:Stmt:=top 21
abbrev OA:Stmt:=top 22
abbrev OI:Stmt:=top 29
abbrev C4:Stmt:=top 30
abbrev O2:Stmt:=top 31
abbrev GN:Stmt:=top 32
abbrev OW:Stmt:=top 33
abbrev Oz:Stmt:=top 34
abbrev OV:Stmt:=top 35
abbrev OH:Stmt:=top 39
abbrev O1:Stmt:=top 40
abbrev O0:Stmt:=top 41
abbrev Hg:Stmt:=top 45
abbrev Oy:Stmt:=top 53
abbrev Ox:Stmt:=top 54
abbrev Ow:Stmt:=top 55
abbrev Od:Stmt:=top 56
abbrev Oj:Stmt:=top 59
abbrev OU:Stmt:=top 60
abbrev Ov:Stmt:=top 61
abbrev OT:Stmt:=top 62
abbrev Ou:Stmt:=top 63
abbrev O6:Stmt:=top 64
abbrev O5:Stmt:=top 71
abbrev Of:Stmt:=top 72
abbrev OS:Stmt:=top 73
abbrev OR:Stmt:=top 74
abbrev OG:Stmt:=top 75
abbrev OQ:Stmt:=top 76
abbrev O4:Stmt:=top 77
abbrev Ot:Stmt:=top 78
abbrev Oc:Stmt:=top 84
abbrev OF:Stmt:=top 85
abbrev OP:Stmt:=top 86
abbrev Oq:Stmt:=top 87
abbrev OO:Stmt:=top 88
abbrev ON:Stmt:=top 89
abbrev OM:Stmt:=top 90
abbrev O3:Stmt:=top 91
abbrev OZ:Stmt:=top 95
abbrev Pa:Stmt:=top 99
abbrev Oo:Stmt:=top 100
abbrev OE:Stmt:=top 101
abbrev O9:Stmt:=top 102
abbrev Oi:Stmt:=top 103
abbrev OD:Stmt:=top 109
abbrev OL:Stmt:=top 110
abbrev OC:Stmt:=top 111
abbrev OJ:Stmt:=top 112
abbrev OY:Stmt:=top 113
abbrev Oh:Stmt:=top 119
abbrev Oe:Stmt:=top 120
abbrev C3:Stmt:=top 121
abbrev G0:Stmt:=inClass (top 3) 0
abbrev G5:Stmt:=inClass (top 3) 1
abbrev Hc:Stmt:=inClass (top 3) 2
abbrev GZ:Stmt:=inClass (top 3) 3
abbrev GY:Stmt:=inClass (top 3) 4
abbrev Hb:Stmt:=inClass (top 3) 5
abbrev Ha:Stmt:=inClass (top 3) 6
abbrev G9:Stmt:=inClass (top 3) 7
abbrev He:Stmt:=inClass (top 3) 8
abbrev GX:Stmt:=inClass (top 37) 0
abbrev G4:Stmt:=inClass (top 38) 0
abbrev GR:Stmt:=inClass (top 52) 0
abbrev G3:Stmt:=inClass (top 58) 0
abbrev GP:Stmt:=inClass (top 70) 0
abbrev G7:Stmt:=inClass (top 70) 1
abbrev G8:Stmt:=inClass (top 70) 2
abbrev G6:Stmt:=inClass (top 70) 3
abbrev GW:Stmt:=inClass (top 80) 0
abbrev GQ:Stmt:=inClass (top 83) 0
abbrev GV:Stmt:=inClass (top 94) 0
abbrev Hf:Stmt:=inClass (top 94) 1
abbrev Hd:Stmt:=inClass (top 94) 2
abbrev GU:Stmt:=inClass (top 94) 3
abbrev GO:Stmt:=inClass (top 98) 0
abbrev G1:Stmt:=inClass (top 107) 0
abbrev GS:Stmt:=inClass (top 108) 0
set_option genInjectivity false in
set_option genSizeOf false in
structure Adr where
 prm:Params
 cQ:Addr
 aG:Addr
 ck:Addr
 bN:Addr
 ei:Addr
 dD:Addr
 cN:Addr
 cM:Addr
 fm:Addr
 cn:Addr
 fk:Addr
 bb:Addr
 cj:Addr
 y9:Addr
 zG:FuncData
 zf:Addr
 zK:FuncData
 zm:Addr
 zR:FuncData
 y8:Addr
 zF:FuncData
 y6:Addr
 zE:FuncData
 zl:Addr
 zQ:FuncData
 zk:Addr
 zP:FuncData
 zj:Addr
 zO:FuncData
 zp:Addr
 zT:FuncData
 yZ:Addr
 zD:FuncData
 ze:Addr
 zJ:FuncData
 yU:Addr
 zy:FuncData
 zc:Addr
 zI:FuncData
 yS:Addr
 zw:FuncData
 zh:Addr
 zM:FuncData
 zi:Addr
 zN:FuncData
 zg:Addr
 zL:FuncData
 yY:Addr
 zC:FuncData
 yT:Addr
 zx:FuncData
 yX:Addr
 zB:FuncData
 zq:Addr
 zU:FuncData
 zo:Addr
 zS:FuncData
 yW:Addr
 zA:FuncData
 yR:Addr
 zu:FuncData
 za:Addr
 zH:FuncData
 yV:Addr
 zz:FuncData
 iI:Addr
 jy:Addr
 lr:Addr
 mW:Addr
 Wu:Addr
 Wt:Addr
 Ws:Addr
 Wr:Addr
def adF(K:Frag)(x:Str):Addr:=match nsIn K mainGlobals x with
 |some (some (.ref f))=>f
 |_=>0
def adD(K:Frag)(x:Str):FuncData:=match K.lookup (adF K x)with
 |some ⟨_,_,.func d,_⟩=>d
 |_=>default
abbrev DA(K:Frag)(mg:Str->Option Value)(x:Str)(st:Stmt)(ps:List Str):Prop:=DT K mg x st (adF K x) (adD K x) ps
structure TD(K:Frag)(mg:Str->Option Value):Prop where
 Nu:DA K mg "sign_of" Og ["byte"]
 Nv:DA K mg "signs_of" Om ["text"]
 NH:DA K mg "read_sign" OB ["reader"]
 Gj:DA K mg "read_number" OX ["reader"]
 CI:DA K mg "read_row" Ol ["reader"]
 CL:DA K mg "single_number" O8 ["value"]
 CK:DA K mg "number_within" O7 ["value","least","most"]
 NG:DA K mg "whole_row" OA ["value"]
 NM:DA K mg "put_behind" OI ["outer","inner"]
 vh:DA K mg "moved" C4 ["matrix","place"]
 N4:DA K mg "check_bounds" O2 ["matrix"]
 Gb:DA K mg "turn" GN ["angle"]
 NZ:DA K mg "step_matrix" OW ["word","row"]
 NF:DA K mg "read_step" Oz ["reader"]
 NY:DA K mg "transformed" OV ["outer","transform"]
 Gi:DA K mg "whole_root" OH ["number"]
 N3:DA K mg "add_row_span" O1 ["spans","ellipse","row","window"]
 N2:DA K mg "circle_spans" O0 ["circle","matrix","window"]
 jM:DA K mg "fine" Hg ["place"]
 ND:DA K mg "colour_of" Oy ["digits"]
 NC:DA K mg "read_fill" Ox ["value"]
 NB:DA K mg "read_rule" Ow ["value"]
 Gd:DA K mg "styled" Od ["around","attributes"]
 Gf:DA K mg "row_from" Oj ["y"]
 NX:DA K mg "count_piece" OU ["changes","piece","change","window"]
 NA:DA K mg "pieces_of" Ov ["lines","matrix"]
 NW:DA K mg "sum_changes" OT ["outline","matrix","window"]
 Nz:DA K mg "is_inside" Ou ["total","rule"]
 N8:DA K mg "outline_spans" O6 ["outline","matrix","rule","window"]
 N7:DA K mg "curve_weights" O5 ["k","corner_count"]
 Nt:DA K mg "weighed" Of ["corners","weights"]
 NV:DA K mg "check_place" OS ["place"]
 NU:DA K mg "told_places" OR ["stands","letter","row"]
 NL:DA K mg "follow_row" OG ["pen","letter","row","begins"]
 NT:DA K mg "follow_rows" OQ ["pen","letter","numbers"]
 N6:DA K mg "follow_letter" O4 ["pen","letter","numbers"]
 Ny:DA K mg "read_path" Ot ["value"]
 tZ:DA K mg "needed" Oc ["attributes","name"]
 Gh:DA K mg "place_told" OF ["attributes","x_name","y_name"]
 CJ:DA K mg "length_told" OP ["attributes","name"]
 Nw:DA K mg "read_rect" Oq ["attributes"]
 NS:DA K mg "read_circle" OO ["attributes"]
 NR:DA K mg "read_points" ON ["attributes"]
 NQ:DA K mg "read_figure" OM ["name","attributes"]
 N5:DA K mg "covered_spans" O3 ["shape","window"]
 N1:DA K mg "painted_dots" OZ ["picture"]
 CM:DA K mg "skip_blanks_and_notes" Pa ["reader"]
 Gg:DA K mg "read_name" Oo ["reader"]
 NK:DA K mg "read_value" OE ["reader"]
 N9:DA K mg "read_attributes" O9 ["reader"]
 Ge:DA K mg "read_tag" Oi ["reader"]
 NJ:DA K mg "picture_of" OD ["tag"]
 NP:DA K mg "check_child" OL ["tag","holders"]
 NI:DA K mg "read_child" OC ["reader","holders","picture"]
 NO:DA K mg "read_inside" OJ ["reader","picture","style"]
 N0:DA K mg "read_picture" OY ["signs"]
 CH:DA K mg "answered" Oh ["text","answer"]
 Nr:DA K mg "dots_of" Oe ["picture","most"]
 pJ:DA K mg "paint" C3 ["most","text"]
 eD:Glob mg "BLANK" (.str " ")
 sd:Glob mg "STRANGE" (.str "\n")
 FG:Glob mg "SMALLS" (.str "abcdefghijklmnopqrstuvwxyz")
 sk:Glob mg "LETTERS" (.str "ABCDEFGHIJKLMNOPQRSTUVWXYZabcdefghijklmnopqrstuvwxyz")
 FH:Glob mg "DIGITS" (.str "0123456789")
 Ce:Glob mg "PRINTED" (.str "!\"#$?&'()*+,-./0123456789:;<=>?@ABCDEFGHIJKLMNOPQRSTUVWXYZ[\\]^_`abcdefghijklmnopqrstuvwxyz{|}~")
 sj:Glob mg "MOST_DIGITS" (.int 5)
 sq:Glob mg "LARGEST" (.int 32767)
 iL:Glob mg "NUMBER_BEGINS" (.str "+-0123456789")
 oB:Glob mg "FARTHEST_TURN" (.int 270)
 m9:Glob mg "LARGEST_FACTOR" (.int 1048576)
 oA:Glob mg "LARGEST_SHIFT" (.int 16777216)
 jn:Glob mg "FINE" (.int 4096)
 wW:Glob mg "HALF" (.int 2048)
 fU:Glob mg "DIGITS_OF_SIXTEEN" (.str "0123456789abcdefABCDEF")
 Jt:Glob mg "BLACK" (.int 0)
 sf:Glob mg "NO_FILL" (.int (-1))
 si:Glob mg "NONZERO" (.str "nonzero")
 su:Glob mg "EVENODD" (.str "evenodd")
 pE:Glob mg "PATH_LETTERS" (.str "MLHVQCZmlhvqcz")
 o8:Glob mg "FARTHEST" (.int 65536)
 jA:Glob mg "CURVE_PIECES" (.int 16)
 Js:Glob mg "WHITE" (.int 16777215)
 tS:Glob mg "NAME_SIGNS" (.str "ABCDEFGHIJKLMNOPQRSTUVWXYZabcdefghijklmnopqrstuvwxyz0123456789-:")
 jz:Glob mg "LARGEST_SIDE" (.int 1024)
 jF:Glob mg "MOST_GROUPS_AROUND" (.int 16)
 tT:Glob mg "MOST_BYTES" (.int 65536)
 iM:Glob mg "BEYOND_BOUNDS" (.int (-1))
 wV:Glob mg "NOT_RIGHT" (.int (-2))
 oy:Glob mg "TOO_MANY_DOTS" (.int (-3))
 sE:mg "abs"=none
 UP:mg "answer"=none
 JM:mg "int"=none
 tV:mg "isinstance"=none
 cC:mg "len"=none
 Nd:mg "list"=none
 sD:mg "max"=none
 Cq:mg "min"=none
 fq:mg "range"=none
 Ab:mg "reversed"=none
 FW:mg "sorted"=none
 JL:mg "sum"=none
 JK:mg "tuple"=none
 JJ:mg "zip"=none
structure Txt(K:Frag)(mg:Str->Option Value)(a:Adr):Prop extends TD K mg where
 aJ:Ct K mg "WrongText" a.cQ
 ar:Cls K a.aG
 fL:mg "Reader"=some (.ref a.aG)
 gC:Mk K a.aG a.y9
 bL:aE K a.aG "signs"
 aU:aE K a.aG "place"
 jc:Meth K a.aG "ended" a.zf
 ig:Meth K a.aG "sees_one" a.zm
 gL:Meth K a.aG "skip" a.y8
 gd:Meth K a.aG "need" a.y6
 ka:Meth K a.aG "need_end" a.zl
 lV:Meth K a.aG "take_one" a.zk
 dS:Meth K a.aG "take_all" a.zj
 og:Meth K a.aG "take_up_to" a.zp
 eP:Cls K a.ck
 rg:mg "Circle"=some (.ref a.ck)
 EM:Mk K a.ck a.yZ
 mO:aE K a.ck "cx"
 mM:aE K a.ck "cy"
 gX:aE K a.ck "r"
 a0:Cls K a.bN
 yx:mg "Ellipse"=some (.ref a.bN)
 Bu:Mk K a.bN a.ze
 cJ:aE K a.bN "middle"
 gq:aE K a.bN "t"
 ff:aE K a.bN "q"
 mL:aE K a.bN "p"
 fK:aE K a.bN "reach"
 gN:Cls K a.ei
 um:mg "Style"=some (.ref a.ei)
 yt:Mk K a.ei a.yU
 fQ:aE K a.ei "fill"
 ie:aE K a.ei "rule"
 sA:Cls K a.dD
 j8:mg "Outline"=some (.ref a.dD)
 lT:Mk K a.dD a.zc
 iD:aE K a.dD "lines"
 dk:Cls K a.cN
 Mx:mg "Pen"=some (.ref a.cN)
 Ts:Mk K a.cN a.yS
 d4:aE K a.cN "lines"
 dG:aE K a.cN "stands"
 fe:aE K a.cN "line_begin"
 oa:Meth K a.cN "begin_line" a.zh
 rk:Meth K a.cN "go_straight" a.zi
 rj:Meth K a.cN "go_curved" a.zg
 bc:Cls K a.cM
 Bv:mg "Window"=some (.ref a.cM)
 EL:Mk K a.cM a.yY
 du:aE K a.cM "width"
 aY:aE K a.cM "row_length"
 ef:aE K a.cM "first_row"
 bU:aE K a.cM "behind_row"
 dC:Cls K a.fm
 EO:mg "Shape"=some (.ref a.fm)
 Iq:Mk K a.fm a.yT
 dB:aE K a.fm "figure"
 gc:aE K a.fm "matrix"
 eZ:aE K a.fm "style"
 bY:Cls K a.cn
 Bw:mg "Canvas"=some (.ref a.cn)
 EN:Mk K a.cn a.yX
 d5:aE K a.cn "window"
 fh:aE K a.cn "colours"
 eI:aE K a.cn "leads_to"
 oh:Meth K a.cn "unpainted_from" a.zq
 rm:Meth K a.cn "paint_span" a.zo
 rh:Meth K a.cn "rows" a.yW
 dW:Cls K a.fk
 Mw:mg "Tag"=some (.ref a.fk)
 Tr:Mk K a.fk a.yR
 dR:aE K a.fk "name"
 bI:aE K a.fk "attributes"
 ic:aE K a.fk "closed"
 dj:Cls K a.bb
 yw:mg "Picture"=some (.ref a.bb)
 Bt:Mk K a.bb a.za
 fJ:aE K a.bb "width"
 fc:aE K a.bb "height"
 fb:aE K a.bb "shapes"
 fO:Cls K a.cj
 rf:mg "Holder"=some (.ref a.cj)
 uj:Mk K a.cj a.yV
 gJ:aE K a.cj "name"
 iE:aE K a.cj "matrix"
 jw:aE K a.cj "style"
 BV:Fun K "__init__" "Reader.__init__" G0 a.y9 a.zG
 pf:Binds K a.zG ["self","signs"] []
 BZ:Fun K "ended" "Reader.ended" G5 a.zf a.zK
 sH:Binds K a.zK ["self"] []
 B6:Fun K "sees_one" "Reader.sees_one" Hc a.zm a.zR
 ph:Binds K a.zR ["self","allowed"] []
 BU:Fun K "skip" "Reader.skip" GZ a.y8 a.zF
 ni:Binds K a.zF ["self","word"] []
 BS:Fun K "need" "Reader.need" GY a.y6 a.zE
 lA:Binds K a.zE ["self","word"] []
 B5:Fun K "need_end" "Reader.need_end" Hb a.zl a.zQ
 uJ:Binds K a.zQ ["self"] []
 B4:Fun K "take_one" "Reader.take_one" Ha a.zk a.zP
 Af:Binds K a.zP ["self","allowed"] []
 B3:Fun K "take_all" "Reader.take_all" G9 a.zj a.zO
 gO:Binds K a.zO ["self","allowed"] []
 B8:Fun K "take_up_to" "Reader.take_up_to" He a.zp a.zT
 DK:Binds K a.zT ["self","word"] []
 BR:Fun K "__init__" "Circle.__init__" GX a.yZ a.zD
 JT:Binds K a.zD ["self","cx","cy","r"] []
 BY:Fun K "__init__" "Ellipse.__init__" G4 a.ze a.zJ
 JV:Binds K a.zJ ["self","circle","matrix"] []
 BM:Fun K "__init__" "Style.__init__" GR a.yU a.zy
 DH:Binds K a.zy ["self","fill","rule"] []
 BX:Fun K "__init__" "Outline.__init__" G3 a.zc a.zI
 Ae:Binds K a.zI ["self","lines"] []
 BK:Fun K "__init__" "Pen.__init__" GP a.yS a.zw
 JO:Binds K a.zw ["self"] []
 B1:Fun K "begin_line" "Pen.begin_line" G7 a.zh a.zM
 DJ:Binds K a.zM ["self","place"] []
 B2:Fun K "go_straight" "Pen.go_straight" G8 a.zi a.zN
 JX:Binds K a.zN ["self","place"] []
 B0:Fun K "go_curved" "Pen.go_curved" G6 a.zg a.zL
 JW:Binds K a.zL ["self","told"] []
 BQ:Fun K "__init__" "Window.__init__" GW a.yY a.zC
 JS:Binds K a.zC ["self","width","first_row","behind_row"] []
 BL:Fun K "__init__" "Shape.__init__" GQ a.yT a.zx
 JP:Binds K a.zx ["self","figure","matrix","style"] []
 BP:Fun K "__init__" "Canvas.__init__" GV a.yX a.zB
 JR:Binds K a.zB ["self","window"] []
 B9:Fun K "unpainted_from" "Canvas.unpainted_from" Hf a.zq a.zU
 DL:Binds K a.zU ["self","dot"] []
 B7:Fun K "paint_span" "Canvas.paint_span" Hd a.zo a.zS
 JY:Binds K a.zS ["self","span","colour"] []
 BO:Fun K "rows" "Canvas.rows" GU a.yW a.zA
 JQ:Binds K a.zA ["self"] []
 BJ:Fun K "__init__" "Tag.__init__" GO a.yR a.zu
 JN:Binds K a.zu ["self","name","attributes","closed"] []
 BW:Fun K "__init__" "Picture.__init__" G1 a.za a.zH
 JU:Binds K a.zH ["self","width","height"] []
 BN:Fun K "__init__" "Holder.__init__" GS a.yV a.zz
 DI:Binds K a.zz ["self","name","matrix","style"] []
 l6:mg "UNMOVED"=some (.ref a.iI)
 oz:mg "QUARTER_TURNS"=some (.ref a.jy)
 se:mg "ROW_LENGTHS"=some (.ref a.lr)
 iK:mg "SHAPES"=some (.ref a.mW)
 lZ:KTu K a.iI [.int 1,.int 0,.int 0,.int 1,.int 0,.int 0]
 Dt:KTu K a.jy [.ref a.Wu,.ref a.Wt,.ref a.Ws,.ref a.Wr]
 VM:KTu K a.Wu [.int 1,.int 0,.int 0,.int 1,.int 0,.int 0]
 VL:KTu K a.Wt [.int 0,.int 1,.int (-1),.int 0,.int 0,.int 0]
 VJ:KTu K a.Ws [.int (-1),.int 0,.int 0,.int (-1),.int 0,.int 0]
 VI:KTu K a.Wr [.int 0,.int (-1),.int 1,.int 0,.int 0,.int 0]
 iG:KTu K a.mW [.str "rect",.str "circle",.str "polygon",.str "polyline",.str "path"]
 BC:KD K a.prm a.lr [("M",2),("L",2),("H",1),("V",1),("Q",4),("C",6)]
 VP:FY K a.ck a.ck true
 VQ:FY K a.dD a.ck false
theorem fsc{N P:List Str}{sc:Scope}(a:sc.kind=.function:=by rfl)(b:sc.isCoroutine=false:=by rfl)(c:sc.isGenerator=false:=by rfl)(d:N.Nodup:=by decide +kernel)(e:N.take P.length=P:=by rfl)(f:∀x∈P,sc.names.lookup x=some .local\/sc.names.lookup x=some .cell:=by decide +kernel)(g:∀y∈sc.names,y.2≠.free:=by decide +kernel):au N P sc:=⟨a,b,c,d,e,f,g⟩
theorem Q4:au ["byte"] ["byte"] (aj Og):=fsc
theorem AV:au ["text","byte"] ["text"] (aj Om):=fsc
theorem Rb:au ["reader"] ["reader"] (aj OB):=fsc
theorem A3:au ["reader","sign","digits"] ["reader"] (aj OX):=fsc
theorem qu:au ["reader","row","more","comma"] ["reader"] (aj Ol):=fsc
theorem A5:au ["value","reader","number"] ["value"] (aj O8):=fsc
theorem GI:au ["value","least","most","number"] ["value","least","most"] (aj O7):=fsc
theorem AZ:au ["value","reader","row"] ["value"] (aj OA):=fsc
theorem Rh:au ["outer","inner"] ["outer","inner"] (aj OI):=fsc
theorem GL:au ["matrix","place"] ["matrix","place"] (aj C4):=fsc
theorem qy:au ["matrix","factor","shift"] ["matrix"] (aj O2):=fsc
theorem LY:au ["angle"] ["angle"] (aj GN):=fsc
theorem Rt:au ["word","row"] ["word","row"] (aj OW):=fsc
theorem AY:au ["reader","word","row"] ["reader"] (aj Oz):=fsc
theorem vL:au ["outer","transform","reader","matrix"] ["outer","transform"] (aj OV):=fsc
theorem qv:au ["number","guess","nearer"] ["number"] (aj OH):=fsc
theorem nV:au ["spans","ellipse","row","window","m","root","centre","first","behind"] ["spans","ellipse","row","window"] (aj O1):=fsc
theorem lM:au ["circle","matrix","window","ellipse","spans","farthest","first","behind","row"] ["circle","matrix","window"] (aj O0):=fsc
theorem LZ:au ["place"] ["place"] (aj Hg):=fsc
theorem vE:au ["digits","colour","digit"] ["digits"] (aj Oy):=fsc
theorem AX:au ["value","reader","digits"] ["value"] (aj Ox):=fsc
theorem Ra:au ["value"] ["value"] (aj Ow):=fsc
theorem AU:au ["around","attributes","fill","rule"] ["around","attributes"] (aj Od):=fsc
theorem Q7:au ["y"] ["y"] (aj Oj):=fsc
theorem f9:au ["changes","piece","change","window","upper","lower","depth","across","lead","first","row","column","dot"] ["changes","piece","change","window"] (aj OU):=fsc
theorem jU:au ["lines","matrix","pieces","line","places","k","piece","place"] ["lines","matrix"] (aj Ov):=fsc
theorem vK:au ["outline","matrix","window","changes","pieces","piece"] ["outline","matrix","window"] (aj OT):=fsc
theorem Q9:au ["total","rule"] ["total","rule"] (aj Ou):=fsc
theorem iY:au ["outline","matrix","rule","window","fine_matrix","changes","spans","total","begin","dot"] ["outline","matrix","rule","window"] (aj O6):=fsc
theorem GH:au ["k","corner_count","rest"] ["k","corner_count"] (aj O5):=fsc
theorem lL:au ["corners","weights","corner","weight"] ["corners","weights"] (aj Of):=fsc
theorem Rr:au ["place"] ["place"] (aj OS):=fsc
theorem vJ:au ["stands","letter","row","base","k"] ["stands","letter","row"] (aj OR):=fsc
theorem A2:au ["pen","letter","row","begins","told","place"] ["pen","letter","row","begins"] (aj OG):=fsc
theorem vI:au ["pen","letter","numbers","length","first","begins"] ["pen","letter","numbers"] (aj OQ):=fsc
theorem Rz:au ["pen","letter","numbers"] ["pen","letter","numbers"] (aj O4):=fsc
theorem vD:au ["value","reader","pen","letter"] ["value"] (aj Ot):=fsc
theorem Q3:au ["attributes","name"] ["attributes","name"] (aj Oc):=fsc
theorem Rg:au ["attributes","x_name","y_name"] ["attributes","x_name","y_name"] (aj OF):=fsc
theorem Rq:au ["attributes","name"] ["attributes","name"] (aj OP):=fsc
theorem AW:au ["attributes","near","far"] ["attributes"] (aj Oq):=fsc
theorem GG:au ["attributes","middle"] ["attributes"] (aj OO):=fsc
theorem vH:au ["attributes","row","k"] ["attributes"] (aj ON):=fsc
theorem Rp:au ["name","attributes"] ["name","attributes"] (aj OM):=fsc
theorem Ry:au ["shape","window"] ["shape","window"] (aj O3):=fsc
theorem qx:au ["picture","window","canvas","shape","span"] ["picture"] (aj OZ):=fsc
theorem RF:au ["reader"] ["reader"] (aj Pa):=fsc
theorem Q8:au ["reader"] ["reader"] (aj Oo):=fsc
theorem A1:au ["reader","quote","value"] ["reader"] (aj OE):=fsc
theorem A6:au ["reader","attributes","name"] ["reader"] (aj O9):=fsc
theorem vC:au ["reader","name","attributes","closed"] ["reader"] (aj Oi):=fsc
theorem A0:au ["tag","width","height"] ["tag"] (aj OD):=fsc
theorem Ro:au ["tag","holders"] ["tag","holders"] (aj OL):=fsc
theorem vF:au ["reader","holders","picture","tag","matrix","style"] ["reader","holders","picture"] (aj OC):=fsc
theorem GF:au ["reader","picture","style","holders"] ["reader","picture","style"] (aj OJ):=fsc
theorem qw:au ["signs","reader","tag","picture","style"] ["signs"] (aj OY):=fsc
theorem GC:au ["text","answer","picture"] ["text","answer"] (aj Oh):=fsc
theorem GB:au ["picture","most","dot_count"] ["picture","most"] (aj Oe):=fsc
theorem GK:au ["most","text"] ["most","text"] (aj C3):=fsc
theorem Rn:au ["self","signs"] ["self","signs"] (aj G0):=fsc
theorem Rx:au ["self"] ["self"] (aj G5):=fsc
theorem RE:au ["self","allowed"] ["self","allowed"] (aj Hc):=fsc
theorem Rm:au ["self","word"] ["self","word"] (aj GZ):=fsc
theorem Rl:au ["self","word"] ["self","word"] (aj GY):=fsc
theorem RD:au ["self"] ["self"] (aj Hb):=fsc
theorem RC:au ["self","allowed"] ["self","allowed"] (aj Ha):=fsc
theorem GJ:au ["self","allowed","first"] ["self","allowed"] (aj G9):=fsc
theorem A8:au ["self","word","first","found"] ["self","word"] (aj He):=fsc
theorem Rk:au ["self","cx","cy","r"] ["self","cx","cy","r"] (aj GX):=fsc
theorem Rw:au ["self","circle","matrix"] ["self","circle","matrix"] (aj G4):=fsc
theorem Rf:au ["self","fill","rule"] ["self","fill","rule"] (aj GR):=fsc
theorem Rv:au ["self","lines"] ["self","lines"] (aj G3):=fsc
theorem Q6:au ["self"] ["self"] (aj GP):=fsc
theorem RA:au ["self","place"] ["self","place"] (aj G7):=fsc
theorem RB:au ["self","place"] ["self","place"] (aj G8):=fsc
theorem A4:au ["self","told","corners","k"] ["self","told"] (aj G6):=fsc
theorem Rj:au ["self","width","first_row","behind_row"] ["self","width","first_row","behind_row"] (aj GW):=fsc
theorem Rc:au ["self","figure","matrix","style"] ["self","figure","matrix","style"] (aj GQ):=fsc
theorem GD:au ["self","window","dot_count"] ["self","window"] (aj GV):=fsc
theorem A9:au ["self","dot","leads_to"] ["self","dot"] (aj Hf):=fsc
theorem A7:au ["self","span","colour","dot"] ["self","span","colour"] (aj Hd):=fsc
theorem vG:au ["self","dots","row","begin"] ["self"] (aj GU):=fsc
theorem Q5:au ["self","name","attributes","closed"] ["self","name","attributes","closed"] (aj GO):=fsc
theorem Ru:au ["self","width","height"] ["self","width","height"] (aj G1):=fsc
theorem Ri:au ["self","name","matrix","style"] ["self","name","matrix","style"] (aj GS):=fsc
end Pg
namespace L2
open PySem PySem.Spec PyProof.Rows
section
variable{P:Program}{w:World}{K:Frag}{mg:Str->Option Value}{bZ:Heap}{C:Addr}{x qual:Str}{st:Stmt}{f:Addr}{fd:FuncData}{N ps:List Str}{k:Nat}{sp:Sp}
theorem Fun.okA(F:Fun K x qual st f fd)(S:au N ps (aj st))
  (kh:∀{cdv:Value}{A:Around}{outer:List Env}{s:Shared}{vs:List V}(H:Hp)(Q:VK)(E:XK),ed k (A.deeper (envOfC qual (aj st) s.heap.objs.size f cdv))->sp vs H Q E->
   ∃t,PSs (bq CX0 P w K mg bZ N qual (aj st) f cdv A outer s H E).nox (d8 st) t/\t {nx:=fun _ H'=>Q .non H',rt:=Q} (start N vs) H) (len:∀vs H Q E,sp vs H Q E->vs.length=ps.length:=by intro _ _ _ _ h;cases h;subst_vars;rfl):eF P w K mg bZ CX0 (k+1) f fd ps sp:=F.ok S len fun _ _ _ _ H _ Q E=>kh H Q E
theorem Fun.bz(F:Fun K x qual st f fd)(S:au N ps (aj st))
  (kh:∀{cdv:Value}{A:Around}{outer:List Env}{s:Shared}{vs:List V}(H:Hp)(Q:VK)(E:XK),ed k (A.deeper (envOfC qual (aj st) s.heap.objs.size f cdv))->sp vs H Q E->
   ∃t,PSs (bq (CXW P w C) P w K mg bZ N qual (aj st) f cdv A outer s H E) (d8 st) t/\t {nx:=fun _ H'=>Q .non H',rt:=Q} (start N vs) H) (len:∀vs H Q E,sp vs H Q E->vs.length=ps.length:=by intro _ _ _ _ h;cases h;subst_vars;rfl):eF P w K mg bZ (CXW P w C) (k+1) f fd ps sp:=F.okX S len fun _ _ _ _ H _ Q E=>kh H Q E
end
end L2
namespace Pg
open PySem PySem.Spec PyProof.Rows L2 TL
abbrev B:=List Nat
def sg(l:List Nat):Str:=⟨l.toArray⟩
theorem cw{l:List Nat}:tl (sg l)=l:=by show l.toArray.toList=l;simp
theorem bT{l:List Nat}:(sg l).length=l.length:=by show l.toArray.size=l.length;simp
theorem jT{l m:List Nat}(h:sg l=sg m):l=m:=by rw[<-cw (l:=l),h,cw]
theorem Q2{l m:List Nat}:sg l=sg m↔l=m:=⟨jT,fun h=>by rw[h]⟩
theorem lit(s:String):(s:Str)=sg (ascii s):=Str.ofString_eq_toList s
structure af(M:List Addr)(H H':Hp):Prop where
 kp:∀b o,H b=some o->b∉M->H' b=some o
 tp:∀b xs,H b=some (.tup xs)->H' b=some (.tup xs)
 fz:∀b o u,H b=some (.frz o u)->H' b=some (.frz o u)
theorem af.refl{M:List Addr}{H:Hp}:af M H H:=⟨fun _ _ h _=>h,fun _ _ h=>h,fun _ _ _ h=>h⟩
theorem af.trans{M:List Addr}{H H1 H2:Hp}(a:af M H H1)(b:af M H1 H2):af M H H2:=
 ⟨fun c o h n=>b.kp c o (a.kp c o h n) n,fun c xs h=>b.tp c xs (a.tp c xs h),fun c o u h=>b.fz c o u (a.fz c o u h)⟩
theorem af.mono{M M':List Addr}{H H1:Hp}(a:af M H H1)(h:∀x∈M,x∈M'):af M' H H1:=
 ⟨fun c o e n=>a.kp c o e fun z=>n (h c z),a.tp,a.fz⟩
theorem af.up{M:List Addr}{H H1:Hp}(a:af [] H H1):af M H H1:=a.mono fun x h=>by simp at h
theorem af.at{H H1:Hp}(a:af [] H H1){b:Addr}{o:HO}(h:H b=some o):H1 b=some o:=a.kp b o h (by simp)
theorem af.one{r:Addr}{H H1:Hp}(a:af [r] H H1){b:Addr}{o:HO}(h:H b=some o)(n:b≠r):H1 b=some o:=a.kp b o h (by simpa using n)
theorem af.new{M:List Addr}{H:Hp}{p:Addr}{o:HO}(hp:H p=none):af M H (upd H p o):=
 ⟨fun b u e _=>by rw[aq (ak e hp)];exact e,fun b xs e=>by rw[aq (ak e hp)];exact e,fun b u v e=>by rw[aq (ak e hp)];exact e⟩
theorem af.set{M:List Addr}{H:Hp}{p:Addr}{o:HO}(hm:p∈M)(mu:Mut (H p)):af M H (upd H p o):=
 ⟨fun b u e n=>by rw[aq (show b≠p from fun z=>n (by rw[z];exact hm))];exact e,fun b xs e=>by rw[aq fun z=>by subst z;rw[e]at mu;exact mu];exact e,
  fun b u v e=>by rw[aq fun z=>by subst z;rw[e]at mu;exact mu];exact e⟩
theorem af.drop{M:List Addr}{p:Addr}{H0 H1 H2:Hp}(a:af M H0 H1)(b:af (p::M) H1 H2)(hp:H0 p=none):af M H0 H2:=
 ⟨fun c o e n=>b.kp c o (a.kp c o e n) (by
   intro z;rcases mem_cons.mp z with z|z
   .subst z;rw[e]at hp;cases hp
   .exact n z),fun c xs h=>b.tp c xs (a.tp c xs h),fun c o u h=>b.fz c o u (a.fz c o u h)⟩
theorem af.free{M:List Addr}{H H1:Hp}(a:af M H H1){p:Addr}(h:H1 p=none)(n:p∉M):H p=none:=by
 cases q:H p with
 |none=>rfl
 |some o=>rw[a.kp p o q n]at h;cases h
theorem af.bP{H H1:Hp}(a:af [] H H1){p:Addr}(h:H1 p=none):H p=none:=a.free h (by simp)
theorem af.made{H H1:Hp}{x dx C:Addr}(nx:H x=none)(nd:H dx=none)(k:af [x] (upd (upd H dx (.own x)) x (.ins C dx [])) H1):af [] H H1:=by
 have e1:af [] H (upd H dx (.own x)):=af.new nd;have hx:∀{o:HO}{b:Addr},H b=some o->(upd (upd H dx (.own x)) x (.ins C dx [])) b=some o:=fun{o b} e=>by rw[aq (ak e nx),aq (ak e nd)];exact e
 exact⟨fun b o e _=>k.kp b o (hx e) (by simpa using ak e nx),fun b xs e=>k.tp b xs (hx e),fun b o u e=>k.fz b o u (hx e)⟩
theorem af.sqT{M:List Addr}{K:Frag}{H H':Hp}{m:Addr}{xs:List V}(k:af M H H')(h:SqT K H m xs):SqT K H' m xs:=by
 rcases h with(h|⟨o,h⟩)|h
 .exact .inl (.inl (k.tp _ _ h))
 .exact .inl (.inr ⟨o,k.fz _ _ _ h⟩)
 .exact .inr h
theorem af.sqL{K:Frag}{H H':Hp}{m:Addr}{xs:List V}(k:af [] H H')(h:SqL K H m xs):SqL K H' m xs:=by
 rcases h with(h|⟨o,h⟩)|h
 .exact .inl (.inl (k.at h))
 .exact .inl (.inr ⟨o,k.fz _ _ _ h⟩)
 .exact .inr h
theorem af.grow{M M':List Addr}{H H1 H2:Hp}(k1:af M H H1)(k2:af M' H1 H2)(d:∀x∈M',x∈M\/H x=none):af M H H2:=
 ⟨fun b o e n=>k2.kp b o (k1.kp b o e n) fun z=>(d b z).elim n (fun q=>by rw[e]at q;cases q),fun b xs e=>k2.tp b xs (k1.tp b xs e),fun b o u e=>k2.fz b o u (k1.fz b o u e)⟩
def bp(a:Adr)(E:XK):Prop:=∀H',E (.ref a.cQ) none H'
def rdF(S:Str)(p:Nat):List (Str×V):=[("signs",.str S),("place",.int (p:Int))]
theorem Vk:(("place":Str)=="signs")=false:=by decide +kernel
theorem U6:¬(("signs":Str)="place"):=by decide +kernel
theorem fG{S:Str}{p:Nat}:(rdF S p).lookup ("signs":Str)=some (.str S):=rfl
theorem dE{S:Str}{p:Nat}:(rdF S p).lookup ("place":Str)=some (.int (p:Int)):=(kO Vk).trans MB
theorem vP{S:Str}{p:Nat}{m:Str}(h1:(m=="signs")=false)(h2:(m=="place")=false):(rdF S p).lookup m=none:=(kO h1).trans ((kO h2).trans rfl)
theorem pL{S:Str}{p q:Nat}:bw "place" (.int (q:Int)) (rdF S p)=rdF S q:=by
 unfold rdF;rw[bD U6,vY]
structure RdR(a:Adr)(H:Hp)(r:Addr)(q:B):Prop where
 ex:∃(b:B)(dx:Addr)(p:Nat),H r=some (.ins a.aG dx (rdF (sg (b.map Sg35.tr)) p))/\q=b.drop p/\p<=b.length/\b.length<=65600/\Byt b
theorem RdR.len{a:Adr}{H:Hp}{r:Addr}{q:B}(h:RdR a H r q):q.length<=65600:=by
 obtain⟨b,dx,p,_,rfl,_,hl,_⟩:=h.ex;rw[length_drop];omega
theorem RdR.byt{a:Adr}{H:Hp}{r:Addr}{q:B}(h:RdR a H r q):Byt q:=by
 obtain⟨b,dx,p,_,rfl,_,hl,hb⟩:=h.ex;exact hb.drop p
theorem RdR.ins{a:Adr}{H:Hp}{r:Addr}{q:B}(h:RdR a H r q):∃dx fs,H r=some (.ins a.aG dx fs)/\∀m:Str,(m=="signs")=false->(m=="place")=false->fs.lookup m=none:=by
 obtain⟨b,dx,p,e,_⟩:=h.ex;exact⟨dx,_,e,fun m h1 h2=>vP h1 h2⟩
theorem RdR.keep{a:Adr}{M:List Addr}{H H':Hp}{r:Addr}{q:B}(h:RdR a H r q)(k:af M H H')(n:r∉M):RdR a H' r q:=by
 obtain⟨b,dx,p,e,r⟩:=h.ex;exact⟨b,dx,p,k.kp _ _ e n,r⟩
theorem RdR.eC{a:Adr}{H H':Hp}{r:Addr}{q:B}(h:RdR a H r q)(k:af [] H H'):RdR a H' r q:=h.keep k (by simp)
theorem RdR.ne{a:Adr}{H:Hp}{r p:Addr}{q:B}(h:RdR a H r q)(hp:H p=none):r≠p:=by
 obtain⟨b,dx,_,e,_⟩:=h.ex;exact ak e hp
def hd1(P:Nat->Bool):B->Bool
 |c::_=>P c
 |[]=>false
def Zs(Z:Str)(P:Nat->Bool):Prop:=∀c<256,Sg35.isIn (tl Z) (Sg35.tr c)=P c
def Mv(a:Adr)(H:Hp)(r:Addr)(q:B)(R:Hp->Prop):Prop:=∀H',af [r] H H'->RdR a H' r q->R H'
section
variable(a:Adr)(K:Frag)(vs:List V)(H:Hp)(Q:VK)
inductive gE(E0:XK):Prop where
 |mk (r dx:Addr)(b:B)(_:vs=[.ref r,.str (sg (b.map Sg35.tr))])(_:H r=some (.ins a.aG dx []))(_:b.length<=65600)(_:Byt b)(_:Mv a H r b (Q .non))
inductive xO(E0:XK):Prop where
 |mk (r:Addr)(q:B)(_:vs=[.ref r])(_:RdR a H r q)(_:Q (.bl (decide (q=[]))) H)
inductive CT(E0:XK):Prop where
 |mk (r:Addr)(q:B)(Z:Str)(P:Nat->Bool)(_:vs=[.ref r,.str Z])(_:RdR a H r q)(_:Zs Z P)(_:Q (.bl (hd1 P q)) H)
inductive CS(E0:XK):Prop where
 |mk (r:Addr)(q:B)(W:Str)(w:List Nat)(_:vs=[.ref r,.str W])(_:RdR a H r q)(_:W=sg w)(_:Plain w)(_:w≠[])(_:w.length<=65700)(_:(∀t,q=w++t->Mv a H r t (Q (.bl true))))(_:((∀t,q≠w++t)->Q (.bl false) H))
inductive CU(E:XK):Prop where
 |mk (r:Addr)(q:B)(W:Str)(w:List Nat)(_:vs=[.ref r,.str W])(_:RdR a H r q)(_:W=sg w)(_:Plain w)(_:w≠[])(_:w.length<=65700)(_:(∀t,q=w++t->Mv a H r t (Q .non)))(_:((∀t,q≠w++t)->bp a E))
inductive jR(E:XK):Prop where
 |mk (r:Addr)(q:B)(_:vs=[.ref r])(_:RdR a H r q)(_:(q=[]->Q .non H))(_:(q≠[]->bp a E))
inductive oN(E:XK):Prop where
 |mk (r:Addr)(q:B)(Z:Str)(P:Nat->Bool)(_:vs=[.ref r,.str Z])(_:RdR a H r q)(_:Zs Z P)(_:(∀c t,q=c::t->P c=true->Mv a H r t (Q (.str (sg [Sg35.tr c])))))(_:(hd1 P q=false->bp a E))
inductive oO(E0:XK):Prop where
 |mk (r:Addr)(q:B)(Z:Str)(P:Nat->Bool)(_:vs=[.ref r,.str Z])(_:RdR a H r q)(_:Zs Z P)(_:Mv a H r (q.dropWhile P) (Q (.str (sg ((q.takeWhile P).map Sg35.tr)))))
inductive xI(E:XK):Prop where
 |mk (r:Addr)(q:B)(W:Str)(w:List Nat)(_:vs=[.ref r,.str W])(_:RdR a H r q)(_:W=sg w)(_:Plain w)(_:w≠[])(_:w.length<=65700)(_:((∀i,(q.drop i).take w.length≠w)->bp a E))(_:∀k,(q.drop k).take w.length=w->(∀i,i<k->(q.drop i).take w.length≠w)->Mv a H r (q.drop (k+w.length)) (Q (.str (sg ((q.take k).map Sg35.tr)))))
end
def LsI(H:Hp)(p:Addr)(l:List Int):Prop:=H p=some (.lst (l.map V.int))
section
variable(a:Adr)(K:Frag)(vs:List V)(H:Hp)(Q:VK)
inductive vo(E0:XK):Prop where
 |mk (r:Addr)(q:B)(_:vs=[.ref r])(_:RdR a H r q)(_:Mv a H r (unsigned q) (Q (.int (if q.head?=some 45 then -1 else 1))))
inductive p6(E:XK):Prop where
 |mk (r:Addr)(q:B)(_:vs=[.ref r])(_:RdR a H r q)(_:(numberAt q=none->bp a E))(_:∀z t,numberAt q=some (z,t)->Mv a H r t (Q (.int z)))
inductive xN(E:XK):Prop where
 |mk (r:Addr)(q:B)(_:vs=[.ref r])(_:RdR a H r q)(_:(rowAt q=none->bp a E))(_:∀l t p,rowAt q=some (l,t)->H p=none->Mv a H r t fun H'=>LsI H' p l->Q (.ref p) H')
end
def TxB(x:Str)(b:B):Prop:=x=sg (b.map Sg35.tr)/\b.length<=65600/\Byt b
section
variable(a:Adr)(K:Frag)(vs:List V)(H:Hp)(Q:VK)
inductive Ef(E:XK):Prop where
 |mk (x:Str)(b:B)(_:vs=[.str x])(_:TxB x b)(_:(single b=none->bp a E))(_:∀z H',single b=some z->af [] H H'->Q (.int z) H')
inductive Ed(E:XK):Prop where
 |mk (x:Str)(b:B)(lo hi:Int)(_:vs=[.str x,.int lo,.int hi])(_:TxB x b)(_:((∀z,single b=some z->¬(lo<=z/\z<=hi))->bp a E))(_:∀z H',single b=some z->lo<=z->z<=hi->af [] H H'->Q (.int z) H')
inductive vk(E:XK):Prop where
 |mk (x:Str)(b:B)(_:vs=[.str x])(_:TxB x b)(_:(Sg35.row b=none->bp a E))(_:∀l p H',Sg35.row b=some l->H p=none->af [] H H'->LsI H' p l->Q (.ref p) H')
end
def Mz(m:Mat):List V:=[.int m.a,.int m.b,.int m.c,.int m.d,.int m.e,.int m.f]
def dY(K:Frag)(H:Hp)(p:Addr)(m:Mat):Prop:=SqT K H p (Mz m)
def Small(m:Mat):Prop:=∀z∈[m.a,m.b,m.c,m.d,m.e,m.f],z.natAbs<=16777216
section
variable(a:Adr)(K:Frag)(vs:List V)(H:Hp)(Q:VK)
inductive tj(E0:XK):Prop where
 |mk (p q:Addr)(m n:Mat)(_:vs=[.ref p,.ref q])(_:dY K H p m)(_:dY K H q n)(_:Small m)(_:∀t H',af [] H H'->dY K H' t (m.times n)->Q (.ref t) H')
inductive px(E:XK):Prop where
 |mk (p:Addr)(m:Mat)(_:vs=[.ref p])(_:dY K H p m)(_:(m.fits=false->bp a E))(_:(m.fits=true->∀H',af [] H H'->Q .non H'))
end
def Hq(z:Int):Option Mat:=turning (ascii "rotate") [z]
section
variable(a:Adr)(K:Frag)(vs:List V)(H:Hp)(Q:VK)
inductive LP(E:XK):Prop where
 |mk (z:Int)(_:vs=[.int z])(_:(Hq z=none->bp a E))(_:∀m t,Hq z=some m->dY K H t m->Q (.ref t) H)
inductive p4(E:XK):Prop where
 |mk (x:Str)(b:B)(p:Addr)(l:List Int)(_:vs=[.str x,.ref p])(_:x=sg b)(_:LsI H p l)(_:(turning b l=none->bp a E))(_:∀m t H',turning b l=some m->af [] H H'->dY K H' t m->Q (.ref t) H')
inductive vn(E:XK):Prop where
 |mk (r:Addr)(q:B)(_:vs=[.ref r])(_:RdR a H r q)(_:(bB q=none->bp a E))(_:∀m t p,bB q=some (m,t)->Mv a H r t fun H'=>dY K H' p m->Q (.ref p) H')
inductive p0(E:XK):Prop where
 |mk (p:Addr)(m:Mat)(x:Str)(b:B)(_:vs=[.ref p,.str x])(_:dY K H p m)(_:Small m)(_:TxB x b)(_:(Sg35.turned m b=none->bp a E))(_:∀n t H',Sg35.turned m b=some n->af [] H H'->dY K H' t n->Small n->Q (.ref t) H')
end
def flV:Option Nat->Int
 |none=>-1
 |some n=>(n:Int)
def rlV(odd:Bool):Str:=if odd=true then "evenodd" else "nonzero"
def stF(f:V)(r:V):List (Str×V):=[("fill",f),("rule",r)]
def nA(a:Adr)(H:Hp)(s:Addr)(f:Option Nat)(o:Bool):Prop:=∃dx,H s=some (.ins a.ei dx (stF (.int (flV f)) (.str (rlV o))))
section
variable(a:Adr)(K:Frag)(vs:List V)(H:Hp)(Q:VK)
inductive ib(E0:XK):Prop where
 |mk (x dx:Addr)(u v:V)(_:vs=[.ref x,u,v])(_:H x=some (.ins a.ei dx []))(_:∀H',af [x] H H'->H' x=some (.ins a.ei dx (stF u v))->Q .non H')
end
def hexOf(b:B):Option Nat:=if b.length=6 then(b.mapM hex).map fun l=>l.foldl (fun n x=>16*n+x) 0 else none
section
variable(a:Adr)(K:Frag)(vs:List V)(H:Hp)(Q:VK)
inductive Eh(E0:XK):Prop where
 |mk (x:Str)(b:B)(n:Nat)(_:vs=[.str x])(_:x=sg b)(_:hexOf b=some n)(_:Q (.int (n:Int)) H)
inductive vv(E:XK):Prop where
 |mk (x:Str)(b:B)(_:vs=[.str x])(_:TxB x b)(_:(fillOf b=none->bp a E))(_:∀f H',fillOf b=some f->af [] H H'->Q (.int (flV f)) H')
end
def qA(b:B):Option Bool:=if b=ascii "nonzero" then some false else if b=ascii "evenodd" then some true else none
section
variable(a:Adr)(K:Frag)(vs:List V)(H:Hp)(Q:VK)
inductive mq(E:XK):Prop where
 |mk (x:Str)(b:B)(_:vs=[.str x])(_:TxB x b)(_:(qA b=none->bp a E))(_:∀o H',qA b=some o->af [] H H'->Q (.str (rlV o)) H')
end
def atK(as:List (B×B)):List (Key×V):=as.map fun p=>(Sum.inr (sg p.1),.str (sg (p.2.map Sg35.tr)))
def gQ(H:Hp)(d:Addr)(as:List (B×B)):Prop:=H d=some (.dK (atK as))/\∀p∈as,p.2.length<=65600/\Byt p.2
theorem gQ.keep{H H':Hp}{d:Addr}{as:List (B×B)}(h:gQ H d as)(k:af [] H H'):gQ H' d as:=⟨k.at h.1,h.2⟩
def fi(f:Option Nat)(as:List (B×B)):Option (Option Nat):=match attr as "fill" with
 |some v=>fillOf v
 |none=>some f
def fF(o:Bool)(as:List (B×B)):Option Bool:=match attr as "fill-rule" with
 |some v=>qA v
 |none=>some o
def gj(f:Option Nat)(o:Bool)(as:List (B×B)):Option (Option Nat×Bool):=(fi f as).bind fun f'=>(fF o as).map fun o'=>(f',o')
theorem pW{f:Option Nat}{o:Bool}{as:List (B×B)}{f':Option Nat}{o':Bool}(h1:fi f as=some f')(h2:fF o as=some o'):gj f o as=some (f',o'):=by unfold gj;rw[h1,h2];rfl
theorem xE{f:Option Nat}{o:Bool}{as:List (B×B)}(h1:fi f as=none):gj f o as=none:=by unfold gj;rw[h1];rfl
theorem xD{f:Option Nat}{o:Bool}{as:List (B×B)}(h1:fF o as=none):gj f o as=none:=by unfold gj;rw[h1];cases fi f as<;>rfl
section
variable(a:Adr)(K:Frag)(vs:List V)(H:Hp)(Q:VK)
inductive Ee(E:XK):Prop where
 |mk (s d:Addr)(f:Option Nat)(o:Bool)(as:List (B×B))(_:vs=[.ref s,.ref d])(_:nA a H s f o)(_:gQ H d as)(_:(gj f o as=none->bp a E))(_:∀f' o' t H',gj f o as=some (f',o')->af [] H H'->H t=none->nA a H' t f' o'->Q (.ref t) H')
end
abbrev Pt:=Int×Int
def PtT(K:Frag)(H:Hp)(t:Addr)(p:Pt):Prop:=SqT K H t [.int p.1,.int p.2]
theorem PtT.keep{M:List Addr}{K:Frag}{H H':Hp}{t:Addr}{p:Pt}(h:PtT K H t p)(k:af M H H'):PtT K H' t p:=k.sqT h
def cZ(K:Frag)(H:Hp)(ts:List Addr)(ps:List Pt):Prop:=Paired (PtT K H) ts ps
theorem cZ.keep{M:List Addr}{K:Frag}{H H':Hp}{ts:List Addr}{ps:List Pt}(h:cZ K H ts ps)(k:af M H H'):cZ K H' ts ps:=Paired.rn h fun _ _ z=>PtT.keep z k
theorem cZ.snoc{K:Frag}{H:Hp}{ts:List Addr}{ps:List Pt}{t:Addr}{p:Pt}(h:cZ K H ts ps)(z:PtT K H t p):cZ K H (ts++[t]) (ps++[p]):=by
 induction h with
 |nil=>exact .cons z .nil
 |cons a b ih=>exact .cons a ih
theorem cZ.length{K:Frag}{H:Hp}{ts:List Addr}{ps:List Pt}(h:cZ K H ts ps):ts.length=ps.length:=Paired.length h
theorem cZ.get{K:Frag}{H:Hp}{ts:List Addr}{ps:List Pt}(h:cZ K H ts ps):∀{i:Nat}{p:Pt},ps[i]?=some p->∃t,ts[i]?=some t/\PtT K H t p:=by
 induction h with
 |nil=>intro i p e;simp at e
 |cons a b ih=>
  intro i p e;cases i with
  |zero=>simp at e;subst e;exact⟨_,rfl,a⟩
  |succ i=>exact ih (by simpa using e)
def kE(K:Frag)(H:Hp)(r:Addr)(ps:List Pt):Prop:=∃ts,H r=some (.lst (ts.map V.ref))/\cZ K H ts ps
theorem kE.keep{M:List Addr}{K:Frag}{H H':Hp}{r:Addr}{ps:List Pt}(h:kE K H r ps)(k:af M H H')(n:r∉M):kE K H' r ps:=by
 obtain⟨ts,e,z⟩:=h;exact⟨ts,k.kp _ _ e n,z.keep k⟩
def bS(K:Frag)(H:Hp)(rs:List Addr)(ls:Lines):Prop:=Paired (kE K H) rs ls
theorem bS.keep{M:List Addr}{K:Frag}{H H':Hp}{rs:List Addr}{ls:Lines}(h:bS K H rs ls)(k:af M H H')(n:∀r∈rs,r∉M):bS K H' rs ls:=by
 induction h with
 |nil=>exact .nil
 |cons a b ih=>exact .cons (a.keep k (n _ (by simp))) (ih fun r hr=>n r (mem_cons_of_mem _ hr))
theorem bS.length{K:Frag}{H:Hp}{rs:List Addr}{ls:Lines}(h:bS K H rs ls):rs.length=ls.length:=Paired.length h
theorem bS.snoc{K:Frag}{H:Hp}{rs:List Addr}{ls:Lines}{r:Addr}{l:List Pt}(h:bS K H rs ls)(z:kE K H r l):bS K H (rs++[r]) (ls++[l]):=by
 induction h with
 |nil=>exact .cons z .nil
 |cons a b ih=>exact .cons a ih
theorem bS.split{K:Frag}{H:Hp}:∀{rs:List Addr}{D:Lines}{l:List Pt},bS K H rs (D++[l])->∃rs0 r,rs=rs0++[r]/\bS K H rs0 D/\kE K H r l
 |_,[],l,h=>by
  cases h with
  |cons a b=>cases b;exact⟨[],_,rfl,.nil,a⟩
 |_,d::D,l,h=>by
  cases h with
  |cons a b=>
   obtain⟨rs0,r,e,h1,h2⟩:=bS.split (D:=D) b;exact⟨_::rs0,r,by rw[e];rfl,.cons a h1,h2⟩
section
variable(a:Adr)(K:Frag)(vs:List V)(H:Hp)(Q:VK)
inductive LS(E0:XK):Prop where
 |mk (p:Addr)(z:Pt)(_:vs=[.ref p])(_:PtT K H p z)(_:∀t H',af [] H H'->H t=none->H' t=some (.tup [.int (4096*z.1),.int (4096*z.2)])->Q (.ref t) H')
inductive nQ(E0:XK):Prop where
 |mk (k:Nat)(n:Nat)(_:vs=[.int (1+(k:Int)),.int (n:Int)])(_:k<16)(_:∀t H',af [] H H'->SqT K H' t ((fP ((k:Int)+1) n).map V.int)->Q (.ref t) H')
inductive AL(E0:XK):Prop where
 |mk (c t:Addr)(ts:List Addr)(cs:List Pt)(ws:List Int)(_:vs=[.ref c,.ref t])(_:H c=some (.lst (ts.map V.ref)))(_:cZ K H ts cs)(_:(∀z∈cs,eB z=true))(_:SqT K H t (ws.map V.int))(_:cs.length<=100)(_:cs.length<=ws.length)(_:∀u H',af [] H H'->PtT K H' u (weigh cs ws)->Q (.ref u) H')
inductive qg(E:XK):Prop where
 |mk (p:Addr)(z:Pt)(_:vs=[.ref p])(_:PtT K H p z)(_:(eB z=false->bp a E))(_:(eB z=true->Q .non H))
end
def Nn(x:Str)(c:Nat):Prop:=x=sg [c]/\aV c=true
section
variable(a:Adr)(K:Frag)(vs:List V)(H:Hp)(Q:VK)
inductive LQ(E0:XK):Prop where
 |mk (s p:Addr)(st:Pt)(x:Str)(c:Nat)(l:List Int)(_:vs=[.ref s,.str x,.ref p])(_:PtT K H s st)(_:Nn x c)(_:aC c≠90)(_:LsI H p l)(_:l.length=arity (aC c))(_:∀t ts H',af [] H H'->H t=none->H' t=some (.lst (ts.map V.ref))->cZ K H' ts (toldOf st (decide (97<=c)) (aC c) l)->Q (.ref t) H')
end
def pnF(l s b:V):List (Str×V):=[("lines",l),("stands",s),("line_begin",b)]
structure bu(a:Adr)(K:Frag)(H:Hp)(pn l:Addr)(rs:List Addr)(ls:Lines)(st bg:Pt)(n:Nat):Prop where
 ob:∃dx s b,H pn=some (.ins a.cN dx (pnF (.ref l) (.ref s) (.ref b)))/\PtT K H s st/\PtT K H b bg
 lst:H l=some (.lst (rs.map V.ref))
 li:bS K H rs ls
 nd:rs.Nodup
 nl:l∉rs
 few:ls.length<=n
 tot:pts ls<=n
theorem bu.short{a:Adr}{K:Frag}{H:Hp}{pn l:Addr}{rs:List Addr}{ls:Lines}{st bg:Pt}{n:Nat}(h:bu a K H pn l rs ls st bg n):∀x∈ls,x.length<=n:=fun x hx=>le_trans (Sg35.De hx) h.tot
def PMv(a:Adr)(K:Frag)(H:Hp)(pn l:Addr)(rs:List Addr)(ls:Lines)(st bg:Pt)(n:Nat)(R:Hp->Prop):Prop:=
 ∀rs' H',af (pn::l::rs) H H'->(∀x∈rs',x∈rs\/H x=none)->bu a K H' pn l rs' ls st bg n->R H'
section
variable(a:Adr)(K:Frag)(vs:List V)(H:Hp)(Q:VK)
inductive xP(E0:XK):Prop where
 |mk (x dx:Addr)(_:vs=[.ref x])(_:H x=some (.ins a.cN dx []))(_:∀l H',af [x] H H'->H l=none->bu a K H' x l [] [] (0,0) (0,0) 0->Q .non H')
inductive tE(E0:XK):Prop where
 |mk (pn l p:Addr)(rs:List Addr)(ls:Lines)(st bg z:Pt)(n:Nat)(_:vs=[.ref pn,.ref p])(_:bu a K H pn l rs ls st bg n)(_:PtT K H p z)(_:n<16000000)(_:PMv a K H pn l rs (ls++[[Sg35.wh z]]) z z (n+1) (Q .non))
inductive qc(E0:XK):Prop where
 |mk (pn l p:Addr)(rs:List Addr)(D:Lines)(e:List Pt)(st bg z:Pt)(n:Nat)(_:vs=[.ref pn,.ref p])(_:bu a K H pn l rs (D++[e]) st bg n)(_:PtT K H p z)(_:n<16000000)(_:PMv a K H pn l rs (D++[e++[Sg35.wh z]]) z bg (n+1) (Q .non))
inductive vx(E0:XK):Prop where
 |mk (pn l p:Addr)(rs ts:List Addr)(D:Lines)(e:List Pt)(st bg z:Pt)(told:List Pt)(n:Nat)(_:vs=[.ref pn,.ref p])(_:bu a K H pn l rs (D++[e]) st bg n)(_:H p=some (.lst (ts.map V.ref)))(_:cZ K H ts (told++[z]))(_:(told.length=1\/told.length=2))(_:(∀y∈told++[z],eB y=true))(_:eB st=true)(_:n<16000000)(_:p∉pn::l::rs)(_:PMv a K H pn l rs (D++[e++fB (st::(told++[z]))]) z bg (n+16) (Q .non))
inductive lj(E:XK):Prop where
 |mk (pn l p:Addr)(rs:List Addr)(ls:Lines)(st bg:Pt)(n:Nat)(x:Str)(c:Nat)(row:List Int)(cD:Bool)(_:vs=[.ref pn,.str x,.ref p,.bl cD])(_:bu a K H pn l rs ls st bg n)(_:Nn x c)(_:aC c≠90)(_:LsI H p row)(_:row.length=arity (aC c))(_:(cD=true->aC c=77))(_:(cD=false->ls≠[]))(_:eB st=true)(_:n<16000000)(_:((toldOf st (decide (97<=c)) (aC c) row).all eB=false->bp a E))(_:((toldOf st (decide (97<=c)) (aC c) row).all eB=true->∀ls' st' bg',gF ls st bg (toldOf st (decide (97<=c)) (aC c) row) cD=(ls',st',bg')->PMv a K H pn l rs ls' st' bg' (n+16) (Q .non)))
inductive qd(E:XK):Prop where
 |mk (pn l p:Addr)(rs:List Addr)(ls:Lines)(st bg:Pt)(n:Nat)(pp:Pen)(x:Str)(c:Nat)(nums:List Int)(_:vs=[.ref pn,.str x,.ref p])(_:bu a K H pn l rs ls st bg n)(_:Sim ls st bg pp)(_:Nn x c)(_:aC c≠90)(_:LsI H p nums)(_:(aC c≠77->ls≠[]))(_:n+16*nums.length<16000000)(_:p∉pn::l::rs)(_:((nums=[]\/Pen.rows (nums.length+1) pp (aC c) (decide (97<=c)) nums=none)->bp a E))(_:(∀pp' ls' st' bg',nums≠[]->Pen.rows (nums.length+1) pp (aC c) (decide (97<=c)) nums=some pp'->Sim ls' st' bg' pp'->ls'≠[]->PMv a K H pn l rs ls' st' bg' (n+16*nums.length) (Q .non)))
end
def ke(pp:Pen)(c:Nat)(nums:List Int):Option Pen:=
 if aC c=90 then(if nums=[]then some pp.cq else none)else if nums=[]then none else Pen.rows (nums.length+1) pp (aC c) (decide (97<=c)) nums
section
variable(a:Adr)(K:Frag)(vs:List V)(H:Hp)(Q:VK)
inductive nP(E:XK):Prop where
 |mk (pn l p:Addr)(rs:List Addr)(ls:Lines)(st bg:Pt)(n:Nat)(pp:Pen)(x:Str)(c:Nat)(nums:List Int)(_:vs=[.ref pn,.str x,.ref p])(_:bu a K H pn l rs ls st bg n)(_:Sim ls st bg pp)(_:Nn x c)(_:LsI H p nums)(_:(aC c≠77->ls≠[]))(_:n+16*nums.length+16<16000000)(_:p∉pn::l::rs)(_:(ke pp c nums=none->bp a E))(_:(∀pp' ls' st' bg',ke pp c nums=some pp'->Sim ls' st' bg' pp'->ls'≠[]->PMv a K H pn l rs ls' st' bg' (n+16*nums.length+1) (Q .non)))
end
def kD(K:Frag)(F:Addr->Prop)(H:Hp)(l:Addr)(ls:Lines):Prop:=∃rs ls',H l=some (.lst (rs.map V.ref))/\F l/\(∀x∈rs,F x)/\bS K H rs ls'/\dZ ls' ls/\pts ls'<=16000000
section
variable(a:Adr)(K:Frag)(vs:List V)(H:Hp)(Q:VK)
inductive vq(E:XK):Prop where
 |mk (x:Str)(b:B)(_:vs=[.str x])(_:TxB x b)(_:(pathOf b=none->bp a E))(_:∀ls l H',pathOf b=some ls->af [] H H'->kD K (fun y=>H y=none) H' l ls->Q (.ref l) H')
end
def jD(a:Adr)(K:Frag)(F:Addr->Prop)(H:Hp)(f:Addr):Sg35.Kind->Prop
 |.lines ls=>∃dx l,H f=some (.ins a.dD dx [("lines",.ref l)])/\F f/\kD K F H l ls
 |.circle cx cy r=>∃dx,H f=some (.ins a.ck dx [("cx",.int cx),("cy",.int cy),("r",.int r)])/\F f
section
variable(a:Adr)(K:Frag)(vs:List V)(H:Hp)(Q:VK)
inductive pB(E0:XK):Prop where
 |mk (x dx:Addr)(u:V)(_:vs=[.ref x,u])(_:H x=some (.ins a.dD dx []))(_:∀H',af [x] H H'->H' x=some (.ins a.dD dx [("lines",u)])->Q .non H')
inductive qj(E0:XK):Prop where
 |mk (x dx:Addr)(u v w:V)(_:vs=[.ref x,u,v,w])(_:H x=some (.ins a.ck dx []))(_:∀H',af [x] H H'->H' x=some (.ins a.ck dx [("cx",u),("cy",v),("r",w)])->Q .non H')
end
def shF(u v w:V):List (Str×V):=[("figure",u),("matrix",v),("style",w)]
section
variable(a:Adr)(K:Frag)(vs:List V)(H:Hp)(Q:VK)
inductive tF(E0:XK):Prop where
 |mk (x dx:Addr)(u v w:V)(_:vs=[.ref x,u,v,w])(_:H x=some (.ins a.fm dx []))(_:∀H',af [x] H H'->H' x=some (.ins a.fm dx (shF u v w))->Q .non H')
inductive Eg(E:XK):Prop where
 |mk (d:Addr)(x:Str)(k:String)(as:List (B×B))(_:vs=[.ref d,.str x])(_:x=(k:Str))(_:gQ H d as)(_:(attr as k=none->bp a E))(_:∀v y,attr as k=some v->TxB y v->Q (.str y) H)
end
inductive lh(a:Adr)(K:Frag)(vs:List V)(H:Hp)(Q:VK)(E:XK):Prop where
 |mk (d:Addr)(x y:Str)(kx ky:String)(as:List (B×B))(_:vs=[.ref d,.str x,.str y])(_:x=(kx:Str))(_:y=(ky:Str))(_:gQ H d as)(_:((numIn as kx (some 0)=none\/numIn as ky (some 0)=none)->bp a E))(_:∀u v t H',numIn as kx (some 0)=some u->numIn as ky (some 0)=some v->af [] H H'->H' t=some (.tup [.int u,.int v])->Q (.ref t) H'):lh a K vs H Q E
section
variable(a:Adr)(K:Frag)(vs:List V)(H:Hp)(Q:VK)
inductive qb(E:XK):Prop where
 |mk (d:Addr)(x:Str)(k:String)(as:List (B×B))(_:vs=[.ref d,.str x])(_:x=(k:Str))(_:gQ H d as)(_:((∀z,numIn as k none=some z->z<0)->bp a E))(_:∀z H',numIn as k none=some z->0<=z->af [] H H'->Q (.int z) H')
inductive vp(E:XK):Prop where
 |mk (d:Addr)(as:List (B×B))(_:vs=[.ref d])(_:gQ H d as)(_:(Sg35.kindOf (ascii "rect") as=none->bp a E))(_:∀k f H',Sg35.kindOf (ascii "rect") as=some k->af [] H H'->jD a K (fun y=>H y=none) H' f k->Q (.ref f) H')
inductive p9(E:XK):Prop where
 |mk (d:Addr)(as:List (B×B))(_:vs=[.ref d])(_:gQ H d as)(_:(Sg35.kindOf (ascii "circle") as=none->bp a E))(_:∀k f H',Sg35.kindOf (ascii "circle") as=some k->af [] H H'->jD a K (fun y=>H y=none) H' f k->Q (.ref f) H')
inductive p5(E:XK):Prop where
 |mk (d:Addr)(as:List (B×B))(_:vs=[.ref d])(_:gQ H d as)(_:(Sg35.kindOf (ascii "polygon") as=none->bp a E))(_:∀k f H',Sg35.kindOf (ascii "polygon") as=some k->af [] H H'->jD a K (fun y=>H y=none) H' f k->Q (.ref f) H')
end
def bj:List B:=[ascii "rect",ascii "circle",ascii "polygon",ascii "polyline",ascii "path"]
section
variable(a:Adr)(K:Frag)(vs:List V)(H:Hp)(Q:VK)
inductive p8(E:XK):Prop where
 |mk (d:Addr)(x:Str)(n:B)(as:List (B×B))(_:vs=[.str x,.ref d])(_:x=sg n)(_:n∈bj)(_:gQ H d as)(_:(Sg35.kindOf n as=none->bp a E))(_:∀k f H',Sg35.kindOf n as=some k->af [] H H'->jD a K (fun y=>H y=none) H' f k->Q (.ref f) H')
end
section
variable(a:Adr)(K:Frag)(vs:List V)(H:Hp)(Q:VK)
inductive CV(E:XK):Prop where
 |mk (r:Addr)(q:B)(_:vs=[.ref r])(_:RdR a H r q)(_:(bM q=none->bp a E))(_:∀t,bM q=some t->Mv a H r t (Q .non))
inductive vt(E:XK):Prop where
 |mk (r:Addr)(q:B)(_:vs=[.ref r])(_:RdR a H r q)(_:(Sg35.nameAt q=none->bp a E))(_:∀n t,Sg35.nameAt q=some (n,t)->Mv a H r t (Q (.str (sg n))))
inductive sY(E:XK):Prop where
 |mk (r:Addr)(q:B)(_:vs=[.ref r])(_:RdR a H r q)(_:(Sg35.valueAt (61::q)=none->bp a E))(_:∀v t,Sg35.valueAt (61::q)=some (v,t)->Mv a H r t (Q (.str (sg (v.map Sg35.tr)))))
inductive lK(E:XK):Prop where
 |mk (r:Addr)(q:B)(_:vs=[.ref r])(_:RdR a H r q)(_:(attrs q=none->bp a E/\∀d as c t,letter c=true->H d=none->Mv a H r (c::t) fun H'=>gQ H' d as->Q (.ref d) H'))(_:∀as t d,attrs q=some (as,t)->H d=none->Mv a H r t fun H'=>gQ H' d as->Q (.ref d) H')
end
def tgF(n:V)(d:V)(c:V):List (Str×V):=[("name",n),("attributes",d),("closed",c)]
section
variable(a:Adr)(K:Frag)(vs:List V)(H:Hp)(Q:VK)
inductive oP(E0:XK):Prop where
 |mk (x dx:Addr)(u v w:V)(_:vs=[.ref x,u,v,w])(_:H x=some (.ins a.fk dx []))(_:∀H',af [x] H H'->H' x=some (.ins a.fk dx (tgF u v w))->Q .non H')
end
def Nm(n:B):Prop:=(∃c r,n=c::r/\letter c=true)/\(∀c∈n,inName c=true)/\n.length<=65600
def uM(a:Adr)(H:Hp)(g:Addr)(n:B)(as:List (B×B))(cq:Bool):Prop:=∃dx d,H g=some (.ins a.fk dx (tgF (.str (sg n)) (.ref d) (.bl cq)))/\gQ H d as/\Nm n
theorem uM.keep{a:Adr}{H H':Hp}{g:Addr}{n:B}{as:List (B×B)}{cq:Bool}(h:uM a H g n as cq)(k:af [] H H'):uM a H' g n as cq:=by
 obtain⟨dx,d,e,h1,h2⟩:=h;exact⟨dx,d,k.at e,h1.keep k,h2⟩
section
variable(a:Adr)(K:Frag)(vs:List V)(H:Hp)(Q:VK)
inductive xM(E:XK):Prop where
 |mk (r:Addr)(q:B)(_:vs=[.ref r])(_:RdR a H r q)(_:(cT q=none->bp a E))(_:∀(t:Tag) g,cT q=some t->H g=none->Mv a H r t.rest fun H'=>uM a H' g t.name t.attrs t.cq->Q (.ref g) H')
end
def xi(a:Adr)(K:Frag)(F:Addr->Prop)(H:Hp)(s:Addr)(h:Sg35.Shape):Prop:=∃dx f m y,H s=some (.ins a.fm dx (shF (.ref f) (.ref m) (.ref y)))/\F s/\F y/\jD a K F H f h.kind/\dY K H m h.mat/\Small h.mat/\nA a H y h.fill h.odd
def pcF(w h l:V):List (Str×V):=[("width",w),("height",h),("shapes",l)]
structure eR(a:Adr)(K:Frag)(F:Addr->Prop)(H:Hp)(p l:Addr)(ss:List Addr)(w h:Nat)(shs:List Sg35.Shape):Prop where
 ob:∃dx,H p=some (.ins a.bb dx (pcF (.int (w:Int)) (.int (h:Int)) (.ref l)))
 lst:H l=some (.lst (ss.map V.ref))
 sh:Paired (xi a K F H) ss shs
 few:shs.length<=65600
section
variable(a:Adr)(K:Frag)(vs:List V)(H:Hp)(Q:VK)
inductive pA(E0:XK):Prop where
 |mk (x dx:Addr)(u v:V)(_:vs=[.ref x,u,v])(_:H x=some (.ins a.bb dx []))(_:∀l H',af [x] H H'->H l=none->H' l=some (.lst [])->H' x=some (.ins a.bb dx (pcF u v (.ref l)))->Q .non H')
end
def hoF(n m s:V):List (Str×V):=[("name",n),("matrix",m),("style",s)]
section
variable(a:Adr)(K:Frag)(vs:List V)(H:Hp)(Q:VK)
inductive jS(E0:XK):Prop where
 |mk (x dx:Addr)(u v w:V)(_:vs=[.ref x,u,v,w])(_:H x=some (.ins a.cj dx []))(_:∀H',af [x] H H'->H' x=some (.ins a.cj dx (hoF u v w))->Q .non H')
end
def tW(a:Adr)(K:Frag)(F:Addr->Prop)(H:Hp)(x:Addr)(f:Sg35.Fr):Prop:=∃dx m y,H x=some (.ins a.cj dx (hoF (.str (sg f.name)) (.ref m) (.ref y)))/\F x/\F y/\dY K H m f.cR.mat/\Small f.cR.mat/\nA a H y f.cR.fill f.cR.odd/\Nm f.name/\(f.shape=true↔f.name∈bj)
section
variable(a:Adr)(K:Frag)(vs:List V)(H:Hp)(Q:VK)
inductive tu(E:XK):Prop where
 |mk (g:Addr)(n:B)(as:List (B×B))(cq:Bool)(_:vs=[.ref g])(_:uM a H g n as cq)(_:((n=ascii "svg"->side as "width"=none\/side as "height"=none)->bp a E))(_:∀w h p l H',n=ascii "svg"->side as "width"=some w->side as "height"=some h->af [] H H'->H p=none->H l=none->eR a K (fun _=>True) H' p l [] w h []->Q (.ref p) H')
end
structure gk(a:Adr)(K:Frag)(F:Addr->Prop)(H:Hp)(hl:Addr)(hs:List Addr)(fs:List Sg35.Fr):Prop where
 lst:H hl=some (.lst (hs.map V.ref))
 ho:Paired (tW a K F H) hs fs
 few:fs.length<=19
 dep:∀(i:Nat)(f:Sg35.Fr),fs[i]?=some f->f.shape=false->f.k+i=17
def jq(f:Sg35.Fr)(n:B):Bool:=!f.shape&&(decide (n∈bj)||(decide (n=ascii "g")&&decide (f.k≠0)))
section
variable(a:Adr)(K:Frag)(vs:List V)(H:Hp)(Q:VK)
inductive qh(E:XK):Prop where
 |mk (g hl:Addr)(n:B)(as:List (B×B))(cq:Bool)(F:Addr->Prop)(hs:List Addr)(fs:List Sg35.Fr)(f:Sg35.Fr)(_:vs=[.ref g,.ref hl])(_:uM a H g n as cq)(_:gk a K F H hl hs (fs++[f]))(_:(jq f n=false->bp a E))(_:(jq f n=true->Q .non H))
inductive sZ(E:XK):Prop where
 |mk (r hl p l:Addr)(q:B)(F:Addr->Prop)(hs ss:List Addr)(fs:List Sg35.Fr)(f:Sg35.Fr)(w h:Nat)(shs:List Sg35.Shape)(_:vs=[.ref r,.ref hl,.ref p])(_:RdR a H r q)(_:gk a K F H hl hs (fs++[f]))(_:eR a K F H p l ss w h shs)(_:(∀x,H x=none->F x))(_:(∀x,F x->x≠r/\x≠hl/\x≠p/\x≠l))(_:r≠hl)(_:r≠p)(_:r≠l)(_:hl≠p)(_:hl≠l)(_:p≠l)(_:shs.length+q.length<=65600)(_:((∀t (g:Tag),q=60::t->cT t=some g->child f g.name g.attrs=none)->bp a E))(_:∀t (g:Tag) (c:Sg35.Fr×List Sg35.Shape),q=60::t->cT t=some g->child f g.name g.attrs=some c ->   ∀hs' ss' H',af [r,hl,l] H H'->RdR a H' r g.rest->gk a K F H' hl hs' (if g.cq=true then fs++[f]else fs++[f]++[c.1])->eR a K F H' p l ss' w h (shs++c.2)->Q .non H')
inductive p7(E:XK):Prop where
 |mk (r p l y:Addr)(q:B)(w h:Nat)(s:Style)(_:vs=[.ref r,.ref p,.ref y])(_:RdR a H r q)(_:eR a K (fun _=>True) H p l [] w h [])(_:nA a H y s.fill s.odd)(_:s.mat=Mat.one)(_:y≠r)(_:y≠p)(_:y≠l)(_:r≠p)(_:r≠l)(_:p≠l)(_:True)(_:(Sg35.run [⟨ascii "svg",false,17,s⟩] q=none->bp a E))(_:∀shs t ss F H',Sg35.run [⟨ascii "svg",false,17,s⟩] q=some (shs,t)->af [r,l] H H'->RdR a H' r t->eR a K F H' p l ss w h shs->(∀x,F x->x≠r/\x≠p/\x≠l)->Q .non H')
inductive pq(E:XK):Prop where
 |mk (x:Str)(b:B)(_:vs=[.str x])(_:TxB x b)(_:(pic b=none->bp a E))(_:∀(pc:Picture) p l ss F H',pic b=some pc->af [] H H'->eR a K F H' p l ss pc.width pc.height pc.shapes->Q (.ref p) H')
end
section
variable(a:Adr)(K:Frag)(vs:List V)(H:Hp)(Q:VK)
inductive AM(E0:XK):Prop where
 |mk (c:Nat)(_:vs=[.int (c:Int)])(_:c<256)(_:∀H',af [] H H'->Q (.str (sg [Sg35.tr c])) H')
inductive xJ(E0:XK):Prop where
 |mk (p:Addr)(b:B)(_:vs=[.ref p])(_:SqL K H p (b.map fun(c:Nat)=>V.int (c:Int)))(_:b.length<=65600)(_:Byt b)(_:∀H',af [] H H'->Q (.str (sg (b.map Sg35.tr))) H')
end
theorem oq{A:Around}{k:Nat}(hr:ed k A):A.units+2<cLine:=lt_of_le_of_lt (Nat.add_le_add_left (by decide:2<=64) _) hr.units
def Mid(m:Mat):Prop:=∀z∈[m.a,m.b,m.c,m.d,m.e,m.f],z.natAbs<=2^37
def mvP(m:Mat)(z:Pt):Pt:=(m.a*z.1+m.c*z.2+m.e,m.b*z.1+m.d*z.2+m.f)
def mY(m:Mat):Mat:=⟨m.a,m.b,m.c,m.d,4096*m.e,4096*m.f⟩
theorem Im(m:Mat)(z:Pt):mvP (mY m) z=moved m z:=by
 unfold mvP mY moved Sg35.UNIT;rw[Int.mul_comm 4096 m.e,Int.mul_comm 4096 m.f]
theorem Small.mid{m:Mat}(h:Small m):Mid m:=fun z hz=>le_trans (h z hz) (by decide)
section
variable(a:Adr)(K:Frag)(vs:List V)(H:Hp)(Q:VK)
inductive Gv(E0:XK):Prop where
 |mk (p t:Addr)(m:Mat)(z:Pt)(_:vs=[.ref p,.ref t])(_:dY K H p m)(_:Mid m)(_:PtT K H t z)(_:∀t',H t'=none->Q (.ref t') (upd H t' (.tup [.int (mvP m z).1,.int (mvP m z).2])))
end
def wnF(W lo hi:Int):List (Str×V):=[("width",.int W),("row_length",.int (W+1)),("first_row",.int lo),("behind_row",.int hi)]
def ny(a:Adr)(H:Hp)(x:Addr)(W lo hi:Int):Prop:=∃dx,H x=some (.ins a.cM dx (wnF W lo hi))
def nu(W lo hi:Int):Prop:=0<=W/\W<=1024/\0<=lo/\lo<=hi/\hi<=1024
section
variable(a:Adr)(K:Frag)(vs:List V)(H:Hp)(Q:VK)
inductive qi(E0:XK):Prop where
 |mk (x dx:Addr)(W lo hi:Int)(_:vs=[.ref x,.int W,.int lo,.int hi])(_:H x=some (.ins a.cM dx []))(_:∀H',af [x] H H'->ny a H' x W lo hi->Q .non H')
end
abbrev Sn:=Int×Int
def SnT(H:Hp)(t:Addr)(s:Sn):Prop:=H t=some (.tup [.int s.1,.int s.2])
def b0(H:Hp)(l:Addr)(sp:List Sn):Prop:=∃ts,H l=some (.lst (ts.map V.ref))/\Paired (SnT H) ts sp
def elF(t:Addr)(E:Ell):List (Str×V):=[("middle",.ref t),("t",.int E.t),("q",.int E.q),("p",.int E.p),("reach",.int E.reach)]
def QI(a:Adr)(H:Hp)(x:Addr)(E:Ell):Prop:=∃dx t,H x=some (.ins a.bN dx (elF t E))/\SnT H t (E.mx,E.my)
def QJ(a:Adr)(H:Hp)(x:Addr)(cx cy r:Int):Prop:=∃dx,H x=some (.ins a.ck dx [("cx",.int cx),("cy",.int cy),("r",.int r)])
def Ly(cx cy r:Int):Prop:=cx.natAbs<=32767/\cy.natAbs<=32767/\r.natAbs<=32767
section
variable(a:Adr)(K:Frag)(vs:List V)(H:Hp)(Q:VK)
inductive pC(E0:XK):Prop where
 |mk (x dx c p:Addr)(cx cy r:Int)(m:Mat)(_:vs=[.ref x,.ref c,.ref p])(_:H x=some (.ins a.bN dx []))(_:QJ a H c cx cy r)(_:Ly cx cy r)(_:dY K H p m)(_:Small m)(_:x≠c)(_:∀H',af [x] H H'->QI a H' x (aO m cx cy r)->Q .non H')
inductive sX(E0:XK):Prop where
 |mk (n:Int)(_:vs=[.int n])(_:0<=n)(_:n<2^900)(_:∀s,ej n s->Q (.int s) H)
end
def QH(E:Ell):Prop:=E.mx.natAbs<=2^41/\E.my.natAbs<=2^41/\E.t.natAbs<=2^50/\E.q.natAbs<=2^50/\E.p.natAbs<=2^50/\E.reach.natAbs<=2^90
def fOf(E:Ell)(s y:Int):Int:=max 0 (-((s-eE E y)/(2*E.q)))
def bOf(W:Int)(E:Ell)(s y:Int):Int:=min W ((s+eE E y)/(2*E.q)+1)
section
variable(a:Adr)(K:Frag)(vs:List V)(H:Hp)(Q:VK)
inductive pz(E0:XK):Prop where
 |mk (l e wd:Addr)(sp:List Sn)(E:Ell)(y W lo hi:Int)(_:vs=[.ref l,.ref e,.int y,.ref wd])(_:b0 H l sp)(_:QI a H e E)(_:QH E)(_:0<E.q)(_:ny a H wd W lo hi)(_:nu W lo hi)(_:0<=y)(_:y<=1024)(_:mOf E y*mOf E y<=E.reach)(_:sp.length<=100000)(_:∀s H',ej (E.t*E.t*(E.reach-mOf E y*mOf E y)) s->af [l] H H'->b0 H' l (sp++jt W (fOf E s) (bOf W E s) y)->Q .non H')
inductive pw(E0:XK):Prop where
 |mk (c p wd:Addr)(cx cy r:Int)(m:Mat)(W lo hi:Int)(_:vs=[.ref c,.ref p,.ref wd])(_:QJ a H c cx cy r)(_:Ly cx cy r)(_:dY K H p m)(_:Small m)(_:ny a H wd W lo hi)(_:nu W lo hi)(_:∀l sp H',af [] H H'->b0 H' l sp->Sg35.kX W lo hi (fun x y=>m.det≠0/\r≠0/\Sg35.Ci m cx cy r x y) sp->Q (.ref l) H')
end
def Ao(z:Pt):Prop:=z.1.natAbs<=2^56/\z.2.natAbs<=2^56
section
variable(a:Adr)(K:Frag)(vs:List V)(H:Hp)(Q:VK)
inductive xK(E0:XK):Prop where
 |mk (y:Int)(_:vs=[.int y])(_:Q (.int (br y)) H)
end
def kF(H:Hp)(d:Addr)(kvs:List (Int×Int)):Prop:=H d=some (.dK (kvs.map fun p=>((Sum.inl p.1:Key),V.int p.2)))
def xk(W lo hi:Int)(kvs:List (Int×Int)):Prop:=(kvs.map (·.1)).Nodup/\∀k∈kvs.map (·.1),lo*(W+1)<=k/\k<hi*(W+1)
def WG(H:Hp)(b:Addr)(u l:Pt):Prop:=∃c1 c2,H b=some (.tup [.ref c1,.ref c2])/\SnT H c1 u/\SnT H c2 l
section
variable(a:Adr)(K:Frag)(vs:List V)(H:Hp)(Q:VK)
inductive qf(E0:XK):Prop where
 |mk (d b wd:Addr)(kvs:List (Int×Int))(u l:Pt)(c W lo hi:Int)(_:vs=[.ref d,.ref b,.int c,.ref wd])(_:kF H d kvs)(_:xk W lo hi kvs)(_:WG H b u l)(_:Ao u)(_:Ao l)(_:u.2<=l.2)(_:ny a H wd W lo hi)(_:nu W lo hi)(_:∀ji H',af [d] H H'->kF H' d ji->xk W lo hi ji->(∀t,Sg35.acc ji t=Sg35.acc kvs t+c*Sg35.upTo W lo hi (u,l) t)->Q .non H')
end
def pk(k:Pt×Pt):K2:=[[.inl k.1.1,.inl k.1.2],[.inl k.2.1,.inl k.2.2]]
theorem RQ{k j:Pt×Pt}(h:pk k=pk j):k=j:=by
 obtain⟨⟨a,b⟩,c,d⟩:=k;obtain⟨⟨a',b'⟩,c',d'⟩:=j;unfold pk at h;simp only[List.cons.injEq,Sum.inl.injEq,and_true]at h;obtain⟨⟨h1,h2⟩,h3,h4⟩:=h;rw[h1,h2,h3,h4]
def pkv(pcs:List ((Pt×Pt)×Int)):List (K2×V):=pcs.map fun q=>(pk q.1,.int q.2)
def iW(m:Mat)(ls:Lines)(F:Pt×Pt->Int):Int:=((cE m ls).map fun s=>gp s.1 s.2*F (fI s.1 s.2)).sum
def Ak(pcs:List ((Pt×Pt)×Int)):Prop:=(pcs.map (·.1)).Nodup/\∀k∈pcs.map (·.1),Ao k.1/\Ao k.2/\k.1.2<=k.2.2
inductive mv(P:Program)(w:World)(K:Frag)(vs:List V)(H:Hp)(Q:VK)(E0:XK):Prop where
 |mk (l p:Addr)(rs:List Addr)(ls:Lines)(m:Mat)(_:vs=[.ref l,.ref p])(_:H l=some (.lst (rs.map V.ref)))(_:bS K H rs ls)(_:(∀e∈ls,∀z∈e,l9 z))(_:pts ls<=16000000)(_:dY K H p (mY m))(_:Small m)(_:∀pcs d u H',H d=none->af [] H H'->H' d=some u->PD P w H' d (pkv pcs) u->Ak pcs->(∀F,sumF pcs F=iW m ls F)->Q (.ref d) H'):mv P w K vs H Q E0
def Py(a:Adr)(K:Frag)(H:Hp)(o:Addr)(ls:Lines):Prop:=∃dx l rs,H o=some (.ins a.dD dx [("lines",.ref l)])/\H l=some (.lst (rs.map V.ref))/\bS K H rs ls
def LsOk(ls:Lines):Prop:=(∀e∈ls,∀z∈e,l9 z)/\pts ls<=16000000
section
variable(a:Adr)(K:Frag)(vs:List V)(H:Hp)(Q:VK)
inductive p3(E0:XK):Prop where
 |mk (o p wd:Addr)(ls:Lines)(m:Mat)(W lo hi:Int)(_:vs=[.ref o,.ref p,.ref wd])(_:Py a K H o ls)(_:LsOk ls)(_:dY K H p (mY m))(_:Small m)(_:ny a H wd W lo hi)(_:nu W lo hi)(_:∀d kvs H',af [] H H'->kF H' d kvs->xk W lo hi kvs->(∀t,Sg35.acc kvs t=total W lo hi m ls t)->Q (.ref d) H')
end
def kU(odd:Bool)(n:Int):Bool:=if odd=true then decide (n%2=1)else !decide (n=0)
section
variable(a:Adr)(K:Frag)(vs:List V)(H:Hp)(Q:VK)
inductive vw(E0:XK):Prop where
 |mk (n:Int)(odd:Bool)(_:vs=[.int n,.str (rlV odd)])(_:Q (.bl (kU odd n)) H)
inductive nO(E0:XK):Prop where
 |mk (o p wd:Addr)(ls:Lines)(m:Mat)(odd:Bool)(W lo hi:Int)(_:vs=[.ref o,.ref p,.str (rlV odd),.ref wd])(_:Py a K H o ls)(_:LsOk ls)(_:dY K H p m)(_:Small m)(_:ny a H wd W lo hi)(_:nu W lo hi)(_:∀l sp H',af [] H H'->b0 H' l sp->Sg35.kX W lo hi (fun x y=>kU odd (Sg35.winding m ls (ctr x y))=true) sp->Q (.ref l) H')
end
section
variable(a:Adr)(K:Frag)(vs:List V)(H:Hp)(Q:VK)
inductive nR(E0:XK):Prop where
 |mk (s wd:Addr)(F:Addr->Prop)(h:Sg35.Shape)(W lo hi:Int)(_:vs=[.ref s,.ref wd])(_:xi a K F H s h)(_:Sg35.sO h.kind)(_:ny a H wd W lo hi)(_:nu W lo hi)(_:∀l sp H',af [] H H'->b0 H' l sp->Sg35.kX W lo hi (wZ h) sp->Q (.ref l) H')
end
def cvF(wd c l:Addr):List (Str×V):=[("window",.ref wd),("colours",.ref c),("leads_to",.ref l)]
def Np(a:Adr)(H:Hp)(x wd c l:Addr):Prop:=∃dx,H x=some (.ins a.cn dx (cvF wd c l))
def RwZ(H:Hp)(p:Addr)(n:Nat)(f:Nat->Int):Prop:=H p=some (.lst ((List.range n).map fun k=>V.int (f k)))
def RwN(H:Hp)(p:Addr)(n:Nat)(L:Nat->Nat):Prop:=RwZ H p n fun k=>(L k:Int)
section
variable(a:Adr)(K:Frag)(vs:List V)(H:Hp)(Q:VK)
inductive qk(E0:XK):Prop where
 |mk (x dx wd:Addr)(W h:Nat)(_:vs=[.ref x,.ref wd])(_:H x=some (.ins a.cn dx []))(_:ny a H wd W 0 h)(_:W<=1024)(_:h<=1024)(_:x≠wd)(_:∀c l H',af [x] H H'->H c=none->H l=none->c≠l->Np a H' x wd c l->RwZ H' c (h*(W+1)) (fun _=>16777215)->RwN H' l (h*(W+1)) (fun k=>k)->Q .non H')
inductive vm(E0:XK):Prop where
 |mk (x wd c l:Addr)(n d:Nat)(L:Nat->Nat)(P:Nat->Bool)(_:vs=[.ref x,.int d])(_:Np a H x wd c l)(_:RwN H l n L)(_:Sg35.Ld n L d P)(_:d<n)(_:∀(r:Nat) L' H',af [l] H H'->RwN H' l n L'->(∀i,i<d->L' i=L i)->Sg35.Ld n L' d P->d<=r->r<n->P r=false->(∀k,d<=k->k<r->P k=true)->Q (.int r) H')
inductive tD(E0:XK):Prop where
 |mk (x wd c l t:Addr)(n:Nat)(C:Nat->Int)(L:Nat->Nat)(P:Nat->Bool)(z:Sn)(co:Int)(_:vs=[.ref x,.ref t,.int co])(_:Np a H x wd c l)(_:SnT H t z)(_:RwZ H c n C)(_:RwN H l n L)(_:c≠l)(_:Sg35.Ld n L 0 P)(_:0<=z.1/\z.1<z.2/\z.2.toNat<n)(_:∀L' e H',af [c,l] H H'->z.2.toNat<=e->RwZ H' c n (Sg35.col C P z.1.toNat z.2.toNat e co)->RwN H' l n L'->Sg35.Ld n L' 0 (sp1 P z.1.toNat z.2.toNat)->Q .non H')
inductive LR(E0:XK):Prop where
 |mk (x wd c l:Addr)(W h:Nat)(C:Nat->Int)(_:vs=[.ref x])(_:Np a H x wd c l)(_:ny a H wd W 0 h)(_:W<=1024)(_:h<=1024)(_:RwZ H c (h*(W+1)) C)(_:∀t H',af [] H H'->LsI H' t (gg W h C)->Q (.ref t) H')
inductive AN(E0:XK):Prop where
 |mk (p l:Addr)(ss:List Addr)(F:Addr->Prop)(pc:Picture)(_:vs=[.ref p])(_:eR a K F H p l ss pc.width pc.height pc.shapes)(_:Aj pc)(_:∀t H',af [] H H'->LsI H' t (gg pc.width pc.height (nc pc.width pc.shapes))->Q (.ref t) H')
end
def jm(most:Int)(pc:Picture):List Int:=if most<(pc.width*pc.height:Nat)then [-3]else((pc.width*pc.height:Nat):Int)::gg pc.width pc.height (nc pc.width pc.shapes)
section
variable(a:Adr)(K:Frag)(vs:List V)(H:Hp)(Q:VK)
inductive qe(E0:XK):Prop where
 |mk (p l:Addr)(ss:List Addr)(F:Addr->Prop)(pc:Picture)(most:Int)(_:vs=[.ref p,.int most])(_:eR a K F H p l ss pc.width pc.height pc.shapes)(_:Aj pc)(_:∀t H',LsI H' t (jm most pc)->Q (.ref t) H')
end
structure TX(P:Program)(w:World)(K:Frag)(mg:Str->Option Value)(bZ:Heap)(a:Adr):Prop extends Txt K mg a
namespace TX
section
variable{P:Program}{w:World}{K:Frag}{mg:Str->Option Value}{bZ:Heap}{a:Adr}(T:TX P w K mg bZ a)
abbrev QW(_:TX P w K mg bZ a):=eF P w K mg bZ (CXW P w a.cQ)
abbrev Q0(_:TX P w K mg bZ a):=eF P w K mg bZ CX0
abbrev PW(k:Nat)(x:Str):=T.QW k (adF K x) (adD K x)
abbrev P0(k:Nat)(x:Str):=T.Q0 k (adF K x) (adD K x)
abbrev PF:Prop:=T.P0 1 "sign_of" ["byte"] (AM)
abbrev PL:Prop:=T.PW 2 "signs_of" ["text"] (xJ K)
abbrev P1:Prop:=T.PW 2 "read_sign" ["reader"] (vo a)
abbrev Kd:Prop:=T.PW 4 "read_number" ["reader"] (p6 a)
abbrev DO:Prop:=T.PW 5 "read_row" ["reader"] (xN a)
abbrev Kg:Prop:=T.PW 5 "single_number" ["value"] (Ef a)
abbrev Kf:Prop:=T.PW 6 "number_within" ["value","least","most"] (Ed a)
abbrev PZ:Prop:=T.PW 6 "whole_row" ["value"] (vk a)
abbrev P8:Prop:=T.PW 1 "put_behind" ["outer","inner"] (tj K)
abbrev xj:Prop:=T.P0 1 "moved" ["matrix","place"] (Gv K)
abbrev Qx:Prop:=T.PW 1 "check_bounds" ["matrix"] (px a K)
abbrev J2:Prop:=T.PW 1 "turn" ["angle"] (LP a K)
abbrev Qq:Prop:=T.PW 2 "step_matrix" ["word","row"] (p4 a K)
abbrev PY:Prop:=T.PW 6 "read_step" ["reader"] (vn a K)
abbrev Qp:Prop:=T.PW 7 "transformed" ["outer","transform"] (p0 a K)
abbrev Ka:Prop:=T.P0 1 "whole_root" ["number"] (sX)
abbrev Qw:Prop:=T.P0 2 "add_row_span" ["spans","ellipse","row","window"] (pz a)
abbrev Qv:Prop:=T.P0 4 "circle_spans" ["circle","matrix","window"] (pw a K)
abbrev sN:Prop:=T.P0 1 "fine" ["place"] (LS K)
abbrev PX:Prop:=T.PW 1 "colour_of" ["digits"] (Eh)
abbrev PV:Prop:=T.PW 4 "read_fill" ["value"] (vv a)
abbrev PU:Prop:=T.PW 1 "read_rule" ["value"] (mq a)
abbrev J3:Prop:=T.PW 5 "styled" ["around","attributes"] (Ee a)
abbrev PK:Prop:=T.P0 1 "row_from" ["y"] (xK)
abbrev Qo:Prop:=T.P0 2 "count_piece" ["changes","piece","change","window"] (qf a)
abbrev PR:Prop:=T.P0 2 "pieces_of" ["lines","matrix"] (mv P w K)
abbrev Qn:Prop:=T.P0 3 "sum_changes" ["outline","matrix","window"] (p3 a K)
abbrev PQ:Prop:=T.P0 1 "is_inside" ["total","rule"] (vw)
abbrev QC:Prop:=T.P0 4 "outline_spans" ["outline","matrix","rule","window"] (nO a K)
abbrev QB:Prop:=T.PW 1 "curve_weights" ["k","corner_count"] (nQ K)
abbrev PB:Prop:=T.PW 1 "weighed" ["corners","weights"] (AL K)
abbrev Qm:Prop:=T.PW 1 "check_place" ["place"] (qg a K)
abbrev Ql:Prop:=T.PW 1 "told_places" ["stands","letter","row"] (LQ K)
abbrev P7:Prop:=T.PW 3 "follow_row" ["pen","letter","row","begins"] (lj a K)
abbrev Qk:Prop:=T.PW 4 "follow_rows" ["pen","letter","numbers"] (qd a K)
abbrev QA:Prop:=T.PW 5 "follow_letter" ["pen","letter","numbers"] (nP a K)
abbrev PN:Prop:=T.PW 6 "read_path" ["value"] (vq a K)
abbrev Al:Prop:=T.PW 1 "needed" ["attributes","name"] (Eg a)
abbrev J9:Prop:=T.PW 6 "place_told" ["attributes","x_name","y_name"] (lh a K)
abbrev Kc:Prop:=T.PW 7 "length_told" ["attributes","name"] (qb a)
abbrev PM:Prop:=T.PW 8 "read_rect" ["attributes"] (vp a K)
abbrev Qj:Prop:=T.PW 8 "read_circle" ["attributes"] (p9 a K)
abbrev Qi:Prop:=T.PW 7 "read_points" ["attributes"] (p5 a K)
abbrev Qh:Prop:=T.PW 9 "read_figure" ["name","attributes"] (p8 a K)
abbrev Qz:Prop:=T.P0 5 "covered_spans" ["shape","window"] (nR a K)
abbrev Qu:Prop:=T.P0 6 "painted_dots" ["picture"] (AN a K)
abbrev Kj:Prop:=T.PW 4 "skip_blanks_and_notes" ["reader"] (CV a)
abbrev J7:Prop:=T.PW 4 "read_name" ["reader"] (vt a)
abbrev P6:Prop:=T.PW 4 "read_value" ["reader"] (sY a)
abbrev QE:Prop:=T.PW 5 "read_attributes" ["reader"] (lK a)
abbrev J4:Prop:=T.PW 6 "read_tag" ["reader"] (xM a)
abbrev P5:Prop:=T.PW 7 "picture_of" ["tag"] (tu a K)
abbrev Qg:Prop:=T.PW 1 "check_child" ["tag","holders"] (qh a K)
abbrev P4:Prop:=T.PW 10 "read_child" ["reader","holders","picture"] (sZ a K)
abbrev Qe:Prop:=T.PW 11 "read_inside" ["reader","picture","style"] (p7 a K)
abbrev Qt:Prop:=T.PW 12 "read_picture" ["signs"] (pq a K)
abbrev WI:Prop:=T.P0 7 "dots_of" ["picture","most"] (qe a K)
abbrev sM:Prop:=T.QW 1 a.y9 a.zG ["self","signs"] (gE a)
abbrev Ke:Prop:=T.QW 1 a.zf a.zK ["self"] (xO a)
abbrev DR:Prop:=T.QW 2 a.zm a.zR ["self","allowed"] (CT a)
abbrev uN:Prop:=T.QW 1 a.y8 a.zF ["self","word"] (CS a)
abbrev pj:Prop:=T.QW 2 a.y6 a.zE ["self","word"] (CU a)
abbrev Am:Prop:=T.QW 2 a.zl a.zQ ["self"] (jR a)
abbrev DQ:Prop:=T.QW 3 a.zk a.zP ["self","allowed"] (oN a)
abbrev lD:Prop:=T.QW 3 a.zj a.zO ["self","allowed"] (oO a)
abbrev Ki:Prop:=T.QW 1 a.zp a.zT ["self","word"] (xI a)
abbrev Qc:Prop:=T.QW 1 a.yZ a.zD ["self","cx","cy","r"] (qj a)
abbrev Qs:Prop:=T.Q0 2 a.ze a.zJ ["self","circle","matrix"] (pC a K)
abbrev J8:Prop:=T.QW 1 a.yU a.zy ["self","fill","rule"] (ib a)
abbrev DP:Prop:=T.QW 1 a.zc a.zI ["self","lines"] (pB a)
abbrev PJ:Prop:=T.QW 1 a.yS a.zw ["self"] (xP a K)
abbrev Kh:Prop:=T.QW 2 a.zh a.zM ["self","place"] (tE a K)
abbrev QD:Prop:=T.QW 2 a.zi a.zN ["self","place"] (qc a K)
abbrev Qy:Prop:=T.QW 2 a.zg a.zL ["self","told"] (vx a K)
abbrev Qb:Prop:=T.Q0 1 a.yY a.zC ["self","width","first_row","behind_row"] (qi a)
abbrev P2:Prop:=T.QW 1 a.yT a.zx ["self","figure","matrix","style"] (tF a)
abbrev Qa:Prop:=T.Q0 1 a.yX a.zB ["self","window"] (qk a)
abbrev QG:Prop:=T.Q0 1 a.zq a.zU ["self","dot"] (vm a)
abbrev QF:Prop:=T.Q0 2 a.zo a.zS ["self","span","colour"] (tD a)
abbrev P9:Prop:=T.Q0 1 a.yW a.zA ["self"] (LR a)
abbrev PH:Prop:=T.QW 1 a.yR a.zu ["self","name","attributes","closed"] (oP a)
abbrev Qr:Prop:=T.QW 1 a.za a.zH ["self","width","height"] (pA a)
abbrev Kb:Prop:=T.QW 1 a.yV a.zz ["self","name","matrix","style"] (jS a)
end
end TX
end Pg
namespace Pg
open PySem PySem.Spec PyProof.Rows L2 TL
def nF(u:List Nat):Bool:=(u.all fun d=>decide (33<=d)&&(decide (d<=126)&&(decide (d≠37)&&decide (d≠63))))&&(decide (u≠[])&&decide (u.length<=65700))
theorem iS{u:List Nat}(h:nF u=true):Plain u/\u≠[]/\u.length<=65700:=by
 unfold nF at h;simp only[Bool.and_eq_true,all_eq_true,decide_eq_true_eq]at h;exact⟨fun d hd=>h.1 d hd,h.2.1,h.2.2⟩
section
variable{a:Adr}{i:Nat}{Y:L2.St}{H:Hp}{Q:VK}{E:XK}{r:Addr}{q:B}
theorem gU{m:Str}{sp:Sp}{dvs:List V}{t:TA}{te:TE}(hY:∀Q:VK,Q (.ref r) H->te Y H Q)(hR:RdR a H r q)(hm1:(m=="signs")=false)(hm2:(m=="place")=false)(k:t Y H fun vs H2=>sp (.ref r::(vs++dvs)) H2 Q E):
  js a.aG m sp dvs E te t Y H Q:=by
 obtain⟨dx,fs,h1,hno⟩:=hR.ins;exact hY _ ⟨r,dx,fs,rfl,h1,hno m hm1 hm2,k⟩
theorem vr{v:V}(h:Y[i]?=some (some v)):∀Q:VK,Q v H->cU i Y H Q:=fun Q q=>⟨_,h,q⟩
theorem lX{W:Str}{u:List Nat}(hY:Y[i]?=some (some (.ref r)))(hR:RdR a H r q)(hW:W=sg u)(hu:nF u=true)(k1:∀t,q=u++t->Mv a H r t (Q (.bl true)))(k2:(∀t,q≠u++t)->Q (.bl false) H):
  js a.aG "skip" (CS a) [] E (cU i) (cb (tC (.str W)) fE) Y H Q:=by
 obtain⟨h1,h2,h3⟩:=iS hu;exact gU (vr hY) hR (by decide +kernel) (by decide +kernel) ⟨r,q,W,u,rfl,hR,hW,h1,h2,h3,k1,k2⟩
theorem je{W:Str}{u:List Nat}(hY:Y[i]?=some (some (.ref r)))(hR:RdR a H r q)(hW:W=sg u)(hu:nF u=true)(k1:∀t,q=u++t->Mv a H r t (Q .non))(k2:(∀t,q≠u++t)->bp a E):
  js a.aG "need" (CU a) [] E (cU i) (cb (tC (.str W)) fE) Y H Q:=by
 obtain⟨h1,h2,h3⟩:=iS hu;exact gU (vr hY) hR (by decide +kernel) (by decide +kernel) ⟨r,q,W,u,rfl,hR,hW,h1,h2,h3,k1,k2⟩
theorem mP(hY:Y[i]?=some (some (.ref r)))(hR:RdR a H r q)(k:Q (.bl (decide (q=[]))) H):js a.aG "ended" (xO a) [] E (cU i) fE Y H Q:=
 gU (vr hY) hR (by decide +kernel) (by decide +kernel) ⟨r,q,rfl,hR,k⟩
theorem jd(hY:Y[i]?=some (some (.ref r)))(hR:RdR a H r q)(k1:q=[]->Q .non H)(k2:q≠[]->bp a E):js a.aG "need_end" (jR a) [] E (cU i) fE Y H Q:=
 gU (vr hY) hR (by decide +kernel) (by decide +kernel) ⟨r,q,rfl,hR,k1,k2⟩
theorem wJ{Z:Str}{Pz:Nat->Bool}(hY:Y[i]?=some (some (.ref r)))(hR:RdR a H r q)(hZ:Zs Z Pz)(k:Q (.bl (hd1 Pz q)) H):js a.aG "sees_one" (CT a) [] E (cU i) (cb (tC (.str Z)) fE) Y H Q:=
 gU (vr hY) hR (by decide +kernel) (by decide +kernel) ⟨r,q,Z,Pz,rfl,hR,hZ,k⟩
theorem lW{Z:Str}{Pz:Nat->Bool}(hY:Y[i]?=some (some (.ref r)))(hR:RdR a H r q)(hZ:Zs Z Pz)(k1:∀c t,q=c::t->Pz c=true->Mv a H r t (Q (.str (sg [Sg35.tr c]))))(k2:hd1 Pz q=false->bp a E):
  js a.aG "take_one" (oN a) [] E (cU i) (cb (tC (.str Z)) fE) Y H Q:=
 gU (vr hY) hR (by decide +kernel) (by decide +kernel) ⟨r,q,Z,Pz,rfl,hR,hZ,k1,k2⟩
theorem bJ{Z:Str}{Pz:Nat->Bool}(hY:Y[i]?=some (some (.ref r)))(hR:RdR a H r q)(hZ:Zs Z Pz)(k:Mv a H r (q.dropWhile Pz) (Q (.str (sg ((q.takeWhile Pz).map Sg35.tr))))):
  js a.aG "take_all" (oO a) [] E (cU i) (cb (tC (.str Z)) fE) Y H Q:=
 gU (vr hY) hR (by decide +kernel) (by decide +kernel) ⟨r,q,Z,Pz,rfl,hR,hZ,k⟩
theorem Dr{W:Str}{te:TE}{u:List Nat}(hY:Y[i]?=some (some (.ref r)))(he:∀Q:VK,Q (.str W) H->te Y H Q)(hR:RdR a H r q)(hW:W=sg u)(hu:nF u=true)(k1:(∀i,(q.drop i).take u.length≠u)->bp a E)
  (k2:∀k,(q.drop k).take u.length=u->(∀i,i<k->(q.drop i).take u.length≠u)->Mv a H r (q.drop (k+u.length)) (Q (.str (sg ((q.take k).map Sg35.tr))))):
  js a.aG "take_up_to" (xI a) [] E (cU i) (cb te fE) Y H Q:=by
 obtain⟨h1,h2,h3⟩:=iS hu;exact gU (vr hY) hR (by decide +kernel) (by decide +kernel) (he _ ⟨r,q,W,u,rfl,hR,hW,h1,h2,h3,k1,k2⟩)
theorem Iz{te:TE}{x:Str}{b:B}(he:∀Q:VK,Q (.str x) H->te Y H Q)(hx:TxB x b)(k:∀r H',H r=none->af [] H H'->RdR a H' r b->Q (.ref r) H'):oM a.aG (gE a) [] E (cb te fE) Y H Q:=by
 obtain⟨rfl,hl,hb⟩:=hx;refine he _ fun y dx hy hdx hne=>⟨y,dx,b,rfl,ae,hl,hb,fun H' kp hR=>⟨rfl,k y H' hy (af.made hy hdx kp) hR⟩⟩
theorem eO{te:TE}{x:Str}{b:B}{D:Ends}{u:TS}(he:∀Q:VK,Q (.str x) H->te Y H Q)(hx:TxB x b)(k:∀r H',H r=none->af [] H H'->RdR a H' r b->u D (Y.set i (some (.ref r))) H'):
  D9 (Ea (oM a.aG (gE a) [] E (cb te fE)) (g9 i)) u D Y H:=Iz (Q:=fun v H1=>u D (Y.set i (some v)) H1) he hx k
end
theorem et:Zs " " blank:=fun c _=>by
 have e:tl (" ":Str)=[32]:=by decide +kernel
 rw[e];exact Sg35.IP c
theorem iU(s:String):tl (s:Str)=ascii s:=by rw[lit,cw]
theorem pQ:Zs "ABCDEFGHIJKLMNOPQRSTUVWXYZabcdefghijklmnopqrstuvwxyz" letter:=fun c hc=>by
 rw[iU];exact Sg35.Fd c hc
theorem F1:Zs "ABCDEFGHIJKLMNOPQRSTUVWXYZabcdefghijklmnopqrstuvwxyz0123456789-:" inName:=fun c hc=>by
 rw[iU];exact Sg35.ML c hc
theorem DW:Zs "0123456789" digit:=fun c hc=>by
 rw[iU];exact Sg35.IM c hc
def Vs(c:Nat):Bool:=digit c||(c==45||c==43)
theorem tX:Zs "+-0123456789" Vs:=fun c hc=>by
 rw[iU];exact Sg35.Fc c hc
theorem rP(q:B):hd1 Vs q=Sg35.beginsNumber q:=by cases q<;>rfl
theorem DV:Zs "abcdefghijklmnopqrstuvwxyz" small:=fun c hc=>by
 rw[iU];exact Sg35.IL c hc
def yM(c:Nat):Bool:=(hex c).isSome
theorem QL:Zs "0123456789abcdefABCDEF" yM:=by
 unfold Zs;rw[iU]
 decide +kernel
theorem LA:Zs "MLHVQCZmlhvqcz" aV:=fun c hc=>by
 rw[iU];exact Sg35.MK c hc
def isM(c:Nat):Bool:=c==77||c==109
theorem WK:Zs "Mm" isM:=by
 unfold Zs;rw[iU]
 decide +kernel
def isQuote(c:Nat):Bool:=c==34||c==39
theorem F0:Zs "\"'" isQuote:=by
 unfold Zs;rw[iU]
 decide +kernel
theorem eW(q:B):q.dropWhile blank=Sg35.skip q:=rfl
end Pg
namespace Pg
open PySem PySem.Spec PyProof.Rows L2 TL
variable{P:Program}{w:World}{K:Frag}{mg:Str->Option Value}{bZ:Heap}{a:Adr}(T:TX P w K mg bZ a)
theorem sz{S:Str}(h:S.length<=65700):S.length<=sizeLine:=by rw[sizeLine_eq];lia
theorem trl{b:B}:(sg (b.map Sg35.tr)).length=b.length:=by rw[bT,length_map]
theorem Il{H:Hp}{r dx:Addr}{b:B}{p q:Nat}(h:H r=some (.ins a.aG dx (rdF (sg (b.map Sg35.tr)) p)))(hq:q<=b.length)(hl:b.length<=65600)(hb:Byt b){R:Hp->Prop}(k:Mv a H r (b.drop q) R):
  R (upd H r (.ins a.aG dx (rdF (sg (b.map Sg35.tr)) q))):=
 k _ (af.set (by simp) (by rw[h];exact trivial)) ⟨b,dx,q,ae,rfl,hq,hl,hb⟩
theorem vz{b:B}{p:Nat}{c:Nat}{t:B}(h:b.drop p=c::t):(tl (sg (b.map Sg35.tr)))[p]?=some (Sg35.tr c)/\p<b.length/\b.drop (p+1)=t:=by
 have hp:p<b.length:=by
  have:=congrArg List.length h;rw[length_drop,length_cons]at this
  lia
 have h1:b[p]?=some c:=by
  have:=congrArg (fun z:B=>z[0]?) h;simpa [List.getElem?_drop] using this
 refine⟨by rw[cw,List.getElem?_map,h1];rfl,hp,?_⟩;have:=congrArg (List.drop 1) h;rw[drop_drop]at this;exact this
theorem Ml:T.sM:=by
 refine T.BV.bz Rn fun H Q E hr h=>?_
 obtain⟨r,dx,b,rfl,h1,hl,hb,k⟩:=h;refine⟨_,aa (aX (pv 0) (pv 1)) (ah (aX (pv 0) ag)),?_⟩;refine⟨_,rfl,_,rfl,r,a.aG,dx,_,rfl,h1,T.ar,T.bL,lt0,?_⟩;refine⟨_,rfl,r,a.aG,dx,_,rfl,ae,T.ar,T.aU,lt1,?_⟩;show Q _ (upd (upd H r _) r _);rw[cf];have e:bw "place" (.int 0) (bw "signs" (.str (sg (b.map Sg35.tr))) [])=rdF (sg (b.map Sg35.tr)) 0:=rfl;rw[e];exact k _ (af.set (by simp) (by rw[h1];exact trivial)) ⟨b,dx,0,ae,rfl,zero_le _,hl,hb⟩
theorem qT:T.Ke:=by
 refine T.BZ.bz Rx fun H Q E hr h=>?_
 obtain⟨r,q,rfl,⟨b,dx,p,h1,rfl,hp,hl,hb⟩,k⟩:=h;refine⟨_,ah (aD (kN dr (ax (pv 0)) (aL fj T.cC (pa1 (ax (pv 0)))))),?_⟩;refine⟨_,rfl,r,a.aG,dx,_,_,rfl,h1,T.ar,T.aU,dE,_,rfl,r,a.aG,dx,_,_,rfl,h1,T.ar,T.bL,fG,_,rfl,sz (by rw[trl];lia),rfl,?_⟩;have e:decide (V.int (p:Int)=V.int ((sg (b.map Sg35.tr)).length:Int))=decide (b.drop p=[]):=by
  rw[Bool.eq_iff_iff,decide_eq_true_eq,decide_eq_true_eq,trl];constructor
  .intro z;injection z with z;exact List.drop_eq_nil_iff.mpr (by lia)
  .intro z;have:=List.drop_eq_nil_iff.mp z;rw[show p=b.length by lia]
 rw[e];exact k
theorem vZ:T.DR:=by
 have G:=qT (P:=P) (w:=w) (bZ:=bZ) T;refine T.B6.bz RE fun H Q E hr h=>?_
 obtain⟨r,q,Z,Pz,rfl,hR,hZ,k⟩:=h;obtain⟨b,dx,p,h1,rfl,hp,hl,hb⟩:=id hR;refine⟨_,ah (aD (HQ (RU (eA (pv 0) T.ar T.jc G hr T.sH ay)) (Bi (kN i8 (az BD (ax (pv 0)) (ax (pv 0))) (pv 1))))),?_⟩;refine⟨_,rfl,r,dx,_,rfl,h1,vP (by decide +kernel) (by decide +kernel),r,_,rfl,hR,_,rfl,_,rfl,?_⟩;cases e:b.drop p with
 |nil=>
  rw[decide_eq_true rfl];refine aT ?_;rw[e]at k;exact k
 |cons c t=>
  rw[decide_eq_false (by simp)];refine a9 ?_;obtain⟨hc,_,_⟩:=vz e;rw[e]at k;have hcb:c<256:=hb c (List.mem_of_mem_drop (show c∈b.drop p by rw[e];simp));refine⟨_,rfl,r,a.aG,dx,_,_,rfl,h1,T.ar,T.bL,fG,_,rfl,r,a.aG,dx,_,_,rfl,h1,T.ar,T.aU,dE,_,_,_,rfl,rfl,sz (by rw[trl];lia),dm hc,_,rfl,_,_,rfl,rfl,?_⟩;have e2:decide (Sg35.tr c∈tl Z)=Pz c:=hZ c hcb;rw[e2];exact k
theorem pre_take{w:List Nat}{b:B}{p:Nat}(hw:Plain w):pre w ((tl (sg (b.map Sg35.tr))).drop p)=true↔∃t,b.drop p=w++t:=by
 rw[L9,cw,<-map_drop,Sg35.Cy hw,eL]
theorem Dk:T.uN:=by
 refine T.BU.bz Rm fun H Q E hr h=>?_
 obtain⟨r,q,W,u,rfl,hR,rfl,hpl,hne,hul,k1,k2⟩:=h;obtain⟨b,dx,p,h1,rfl,hp,hl,hb⟩:=id hR;refine⟨_,aa (aR (gb (cV (iA F.plainAttrs_str F.slot_str_startswith F.type_str_startswith ra (ax (pv 0)) (ai (pv 1) (pa1 (ax (pv 0)))))))
  (ah (aD Pd)) aI) (aa (nX (pv 0) (aL fj T.cC (pa1 (pv 1))) BF) (ah (aD Pd))),?_⟩
 refine⟨_,rfl,r,a.aG,dx,_,_,rfl,h1,T.ar,T.bL,fG,rfl,_,rfl,_,rfl,r,a.aG,dx,_,_,rfl,h1,T.ar,T.aU,dE,_,_,(p:Int),rfl,rfl,_,rfl,?_⟩;rw[Ec (by rw[cw];exact hne),cw (l:=u)];have Fj:=pre_take (b:=b) (p:=p) hpl;cases Fg:pre u ((tl (sg (b.map Sg35.tr))).drop p)with
 |false=>
  refine a9 ?_;refine k2 fun t ht=>?_
  rw[Fj.mpr ⟨t,ht⟩]at Fg;cases Fg
 |true=>
  refine aT ?_;obtain⟨t,ht⟩:=Fj.mp Fg;have hlen:=congrArg List.length ht;rw[length_drop,length_append]at hlen;have k:=k1 t ht;have hdt:b.drop (p+u.length)=t:=by rw[<-drop_drop,ht];simp
  rw[<-hdt]at k;refine⟨_,rfl,r,a.aG,dx,_,_,rfl,h1,T.ar,T.aU,dE,_,rfl,_,rfl,sz (by rw[bT];exact hul),_,_,rfl,rfl,dx,_,h1,lt2,?_⟩;have e:bw "place" (.int ((p:Int)+((sg u).length:Int))) (rdF (sg (b.map Sg35.tr)) p)=rdF (sg (b.map Sg35.tr)) (p+u.length):=by
   rw[<-pL (p:=p) (q:=p+u.length),bT,Int.natCast_add]
  show Q _ (upd H r (.ins a.aG dx (bw "place" (.int ((p:Int)+((sg u).length:Int))) (rdF (sg (b.map Sg35.tr)) p))));rw[e];exact Il h1 (by have:0<u.length:=length_pos_iff.mpr hne;lia) hl hb k
theorem Mj:T.pj:=by
 have G:=Dk (P:=P) (w:=w) (bZ:=bZ) T;refine T.BS.bz Rl fun H Q E hr h=>?_
 obtain⟨r,q,W,u,rfl,hR,rfl,hpl,hne,hul,k1,k2⟩:=h;obtain⟨dx,fs,h1,hno⟩:=hR.ins;refine⟨_,ah (aR (gb (cV (aM (pv 0) T.ar T.gL G hr T.ni ay (pa1 (pv 1))))) (ah (bo T.aJ rfl)) aI),?_⟩;refine⟨_,rfl,r,dx,_,rfl,h1,hno _ (by decide +kernel) (by decide +kernel),_,rfl,r,q,_,u,rfl,hR,rfl,hpl,hne,hul,fun t ht H' kp hR'=>⟨_,rfl,aT (k1 t ht H' kp hR')⟩,fun hn=>⟨_,rfl,a9 (k2 hn _)⟩⟩
theorem yk:T.Am:=by
 have G:=qT (P:=P) (w:=w) (bZ:=bZ) T;refine T.B5.bz RD fun H Q E hr h=>?_
 obtain⟨r,q,rfl,hR,k1,k2⟩:=h;obtain⟨dx,fs,h1,hno⟩:=hR.ins;refine⟨_,ah (aR (gb (cV (eA (pv 0) T.ar T.jc G hr T.sH ay))) (ah (bo T.aJ rfl)) aI),?_⟩;refine⟨_,rfl,r,dx,_,rfl,h1,hno _ (by decide +kernel) (by decide +kernel),r,q,rfl,hR,_,rfl,?_⟩;by_cases e:q=[]
 .rw[decide_eq_true e];exact aT (k1 e)
 .rw[decide_eq_false e];exact a9 (k2 e _)
theorem yi:T.DQ:=by
 have G:=vZ (P:=P) (w:=w) (bZ:=bZ) T;refine T.B4.bz RC fun H Q E hr h=>?_
 obtain⟨r,q,Z,Pz,rfl,hR,hZ,k1,k2⟩:=h;obtain⟨b,dx,p,h1,rfl,hp,hl,hb⟩:=id hR;refine⟨_,aa (aR (gb (cV (aM (pv 0) T.ar T.ig G hr T.ph ay (pa1 (pv 1))))) (ah (bo T.aJ rfl)) aI)
  (aa (nX (pv 0) ag BF) (ah (aD (az BD (ax (pv 0)) (ao cg (ax (pv 0)) ag))))),?_⟩
 refine⟨_,rfl,r,dx,_,rfl,h1,vP (by decide +kernel) (by decide +kernel),_,rfl,r,_,Z,Pz,rfl,hR,hZ,_,rfl,?_⟩;cases e:hd1 Pz (b.drop p)with
 |false=>exact a9 (k2 e _)
 |true=>
  refine aT ?_;cases eq:b.drop p with
  |nil=>rw[eq]at e;cases e
  |cons c t=>
   rw[eq]at e;obtain⟨hc,hlt,hdt⟩:=vz eq;have k:=k1 c t eq e;rw[<-hdt]at k;refine⟨_,rfl,r,a.aG,dx,_,_,rfl,h1,T.ar,T.aU,dE,_,_,rfl,rfl,dx,_,h1,lt2,?_⟩;have e3:bw "place" (.int ((p:Int)+1)) (rdF (sg (b.map Sg35.tr)) p)=rdF (sg (b.map Sg35.tr)) (p+1):=by
    rw[<-pL (p:=p)];rfl
   show(fun H2=>_) (upd H r (.ins a.aG dx (bw "place" (.int ((p:Int)+1)) (rdF (sg (b.map Sg35.tr)) p))));rw[e3];refine⟨_,rfl,r,a.aG,dx,_,_,rfl,ae,T.ar,T.bL,fG,_,rfl,r,a.aG,dx,_,_,rfl,ae,T.ar,T.aU,dE,_,_,rfl,rfl,_,_,Sg35.tr c,rfl,rfl,sz (by rw[trl];lia),?_,Il h1 (by lia) hl hb k⟩;have e2:(((p+1:Nat):Int)-1)=(p:Int):=by lia
   rw[e2];exact dm hc
theorem yj:T.lD:=by
 have G:=vZ (P:=P) (w:=w) (bZ:=bZ) T;refine T.B3.bz GJ fun H Q E hr h=>?_
 obtain⟨r,q,Z,Pz,rfl,hR,hZ,k⟩:=h;obtain⟨b,dx,p,h1,rfl,hp,hl,hb⟩:=id hR;refine⟨_,aa (aw 2 GJ.nd (ax (pv 0)))
  (aa (eu (cV (aM (pv 0) T.ar T.ig G hr T.ph ay (pa1 (pv 1)))) (ah (nX (pv 0) ag BF)))
  (ah (aD (gH Gy (ax (pv 0)) (eY (pv 2)) (eY (ax (pv 0))))))),?_⟩
 refine⟨_,rfl,r,a.aG,dx,_,_,rfl,h1,T.ar,T.aU,dE,?_⟩;refine⟨fun m Y H2=>∃n,Y=[some (.ref r),some (.str Z),some (.int (p:Int))]/\H2 r=some (.ins a.aG dx (rdF (sg (b.map Sg35.tr)) n))/\af [r] H H2/\n<=b.length/\p<=n/\(b.drop p).takeWhile Pz=(b.drop p).take (n-p)++(b.drop n).takeWhile Pz/\(b.drop p).dropWhile Pz=(b.drop n).dropWhile Pz/\m=b.length-n,
  ⟨_,p,rfl,h1,af.refl,hp,le_refl _,by simp,rfl,rfl⟩,?_⟩
 rintro m Y H2 ⟨n,rfl,h2,kp,hn,hpn,gR,hdr,rfl⟩;have hR2:RdR a H2 r (b.drop n):=⟨b,dx,n,h2,rfl,hn,hl,hb⟩;refine⟨_,rfl,r,dx,_,rfl,h2,vP (by decide +kernel) (by decide +kernel),_,rfl,r,_,Z,Pz,rfl,hR2,hZ,_,rfl,?_⟩;cases hs:hd1 Pz (b.drop n)with
 |true=>
  refine a9 ?_;cases eq:b.drop n with
  |nil=>rw[eq]at hs;cases hs
  |cons c t=>
   rw[eq]at hs gR hdr;obtain⟨hc,hlt,hdt⟩:=vz eq;have hs':Pz c=true:=hs;refine⟨fun Y' H'=>Y'=[some (.ref r),some (.str Z),some (.int (p:Int))]/\H'=upd H2 r (.ins a.aG dx (rdF (sg (b.map Sg35.tr)) (n+1))),fun Y' H' ⟨e1,e2⟩=>⟨b.length-(n+1),by lia,n+1,e1,by rw[e2];exact ae,by rw[e2];exact kp.trans (af.set (by simp) (by rw[h2];exact trivial)),by lia,by lia,?_,?_,rfl⟩,?_⟩
   .rw[gR,takeWhile_cons,if_pos hs',hdt,show n+1-p=(n-p)+1 by lia,List.take_add];have:((b.drop p).drop (n-p)).take 1=[c]:=by rw[drop_drop,show p+(n-p)=n by lia,eq];rfl
    rw[this,append_assoc];rfl
   .rw[hdr,dropWhile_cons,if_pos hs',hdt]
   .refine⟨_,rfl,r,a.aG,dx,_,_,rfl,h2,T.ar,T.aU,dE,_,_,rfl,rfl,dx,_,h2,lt2,rfl,?_⟩;have e:bw "place" (.int ((n:Int)+1)) (rdF (sg (b.map Sg35.tr)) n)=rdF (sg (b.map Sg35.tr)) (n+1):=by
     rw[<-pL (p:=n)];rfl
    show upd H2 r (.ins a.aG dx (bw "place" (.int ((n:Int)+1)) (rdF (sg (b.map Sg35.tr)) n)))=_;rw[e]
 |false=>
  refine aT ?_;have hw:(b.drop n).takeWhile Pz=[]/\(b.drop n).dropWhile Pz=b.drop n:=by
   cases eq:b.drop n with
   |nil=>exact⟨rfl,rfl⟩
   |cons c t=>
    rw[eq]at hs;have hs':Pz c=false:=hs;rw[takeWhile_cons,dropWhile_cons,hs'];exact⟨rfl,rfl⟩
  rw[hw.1,append_nil]at gR;rw[hw.2]at hdr;refine⟨_,rfl,r,a.aG,dx,_,_,rfl,h2,T.ar,T.bL,fG,_,rfl,_,rfl,_,rfl,r,a.aG,dx,_,_,rfl,h2,T.ar,T.aU,dE,_,rfl,_,rfl,sz (by rw[trl];lia),?_⟩;have e:Cc (sg (b.map Sg35.tr)) (some (p:Int)) (some (n:Int))=sg (((b.drop p).takeWhile Pz).map Sg35.tr):=by
   apply ox
   rw[zV hpn (by rw[trl];exact hn),cw,cw,gR,map_take,map_drop]
  rw[e];exact k H2 kp (by rw[hdr];exact hR2)
theorem HW:T.Ki:=by
 refine T.B8.bz A8 fun H Q E hr h=>?_
 obtain⟨r,q,W,u,rfl,hR,rfl,hpl,hne,hul,kn,k⟩:=h;obtain⟨b,dx,p,h1,rfl,hp,hl,hb⟩:=id hR;refine⟨_,aa (aw 2 A8.nd (ax (pv 0)))
  (aa (aw 3 A8.nd (iA F.plainAttrs_str F.slot_str_find F.type_str_find Ip (ax (pv 0)) (ai (pv 1) (pa1 (pv 2)))))
  (aa (aR (aF uh (pv 3) ag) (ah (bo T.aJ rfl)) aI)
  (aa (aX (pv 0) (ao aQ (pv 3) (aL fj T.cC (pa1 (pv 1)))))
  (ah (aD (gH Gy (ax (pv 0)) (eY (pv 2)) (eY (pv 3)))))))),?_⟩
 refine⟨_,rfl,r,a.aG,dx,_,_,rfl,h1,T.ar,T.aU,dE,?_⟩;refine⟨_,rfl,r,a.aG,dx,_,_,rfl,h1,T.ar,T.bL,fG,rfl,_,rfl,_,rfl,_,_,(p:Int),rfl,rfl,?_⟩;have hW:tl (sg u)≠[]:=by rw[cw];exact hne
 have hdd:∀i,(b.drop p).drop i=b.drop (p+i):=fun i=>drop_drop
 have Fj:∀i,pre u ((tl (sg (b.map Sg35.tr))).drop (p+i))=true↔((b.drop p).drop i).take u.length=u:=fun i=>by
  rw[pre_take hpl,hdd,eL]
 rcases M0 (x:=sg (b.map Sg35.tr)) (y:=sg u) (p:=p) hW with⟨e,hn⟩|⟨j,hj,e,hpj,hn⟩
 .rw[e];refine⟨_,rfl,_,_,rfl,rfl,_,rfl,?_⟩;refine dT (show(-1:Int)<0 by decide) (kn (fun i z=>?_) _);have:=hn (p+i) (by lia);rw[cw (l:=u),(Fj i).mpr z]at this;cases this
 .rw[e];refine⟨_,rfl,_,_,rfl,rfl,_,rfl,?_⟩;refine dF (show ¬(j:Int)<0 by lia) ?_;refine⟨_,rfl,_,rfl,_,rfl,sz (by rw[bT];exact hul),_,_,rfl,rfl,_,rfl,r,a.aG,dx,_,rfl,h1,T.ar,T.aU,lt2,?_⟩;obtain⟨i,rfl⟩:∃i,j=p+i:=⟨j-p,by lia⟩;rw[cw (l:=u)]at hpj;have hpi:=(Fj i).mp hpj;have kk:=k i hpi fun i' hi' z=>by
   have:=hn (p+i') (by lia) (by lia);rw[cw (l:=u),(Fj i').mpr z]at this;cases this
  have hjl:p+i+u.length<=b.length:=by
   have:=congrArg List.length hpi;rw[length_take,hdd,length_drop]at this;have:0<u.length:=length_pos_iff.mpr hne
   lia
  have e2:bw "place" (.int (((p+i:Nat):Int)+((sg u).length:Int))) (rdF (sg (b.map Sg35.tr)) p)=rdF (sg (b.map Sg35.tr)) (p+i+u.length):=by
   rw[<-pL (p:=p) (q:=p+i+u.length),bT,Int.natCast_add (p+i)]
  show(fun H2=>_) (upd H r (.ins a.aG dx (bw "place" (.int (((p+i:Nat):Int)+((sg u).length:Int))) (rdF (sg (b.map Sg35.tr)) p))));rw[e2];refine⟨_,rfl,r,a.aG,dx,_,_,rfl,ae,T.ar,T.bL,fG,_,rfl,_,rfl,_,rfl,_,rfl,_,rfl,sz (by rw[trl];lia),?_⟩;have e3:Cc (sg (b.map Sg35.tr)) (some (p:Int)) (some ((p+i:Nat):Int))=sg (((b.drop p).take i).map Sg35.tr):=by
   apply ox
   rw[zV (by lia) (by rw[trl];lia),cw,cw,map_take,map_drop,Nat.add_sub_cancel_left]
  rw[e3];rw[hdd,show p+(i+u.length)=p+i+u.length by lia]at kk;exact Il h1 hjl hl hb kk
theorem ET:("-":Str)=sg [45]:=by decide +kernel
theorem IB:("+":Str)=sg [43]:=by decide +kernel
theorem EU:(",":Str)=sg [44]:=by decide +kernel
theorem Sq(gn:T.uN):T.P1:=by
 refine T.NH.fn.bz Rb fun H Q E hr h=>?_
 obtain⟨r,q,rfl,hR,k⟩:=h;refine⟨_,(aa (aR (cV (aM (pv 0) T.ar T.gL gn hr T.ni ay (pa1 aN))) (ah (aD (ju fZ ag))) aI)
   (aa (aK (aM (pv 0) T.ar T.gL gn hr T.ni ay (pa1 aN)))
   (ah (aD ag)))),?_⟩
 refine lX rfl hR ET (by decide) (fun t ht H' kp hR'=>⟨_,rfl,a9 ?_⟩) (fun hn=>⟨_,rfl,aT ?_⟩)
 .subst ht;refine⟨_,rfl,?_⟩;exact k H' kp hR'
 .refine lX rfl hR IB (by decide) (fun t ht H' kp hR'=>?_) (fun hn2=>?_)
  .subst ht;exact k H' kp hR'
  .have e1:q.head?≠some 45:=fun z=>by
    cases q with
    |nil=>cases z
    |cons c t=>cases z;exact hn t rfl
   have e2:q.head?≠some 43:=fun z=>by
    cases q with
    |nil=>cases z
    |cons c t=>cases z;exact hn2 t rfl
   have e3:unsigned q=q:=by
    unfold unsigned;rw[if_neg];simp only[Bool.or_eq_true,beq_iff_eq,not_or];exact⟨e1,e2⟩
   have k':=k H af.refl (by rw[e3];exact hR);rw[if_neg e1]at k';exact k'
theorem Jn(d:List Nat):PySem.NumText.digitsVal d=natOf d:=by
 unfold PySem.NumText.digitsVal natOf;congr 1
 funext n c
 lia
theorem BE{d:List Nat}(hne:d≠[])(hd:∀c∈d,digit c=true)(hl:d.length<=5):PySem.intText? (sg d)=some ((natOf d:Nat):Int):=by
 have e:=intText_digits (x:=sg d) (by rw[show(sg d).cps.toList=d from cw];exact fun c hc=>fN.mp (hd c hc)) (by rw[show(sg d).cps.toList=d from cw];exact hne) (by rw[bT];lia);rw[show(sg d).cps.toList=d from cw,Jn]at e;exact e
theorem Bx{d:List Nat}(hd:∀c∈d,digit c=true):d.map Sg35.tr=d:=by
 have:∀c∈d,Sg35.tr c=id c:=fun c hc=>by
  have:=fN.mp (hd c hc);exact(lJ (c:=c) (d:=c) (by lia) (by lia) (by lia) (by lia)).mpr rfl
 rw[map_congr_left this,map_id]
theorem SY(KG:T.P1)(cF:T.lD):T.Kd:=by
 refine T.Gj.fn.bz A3 fun H Q E hr h=>?_
 obtain⟨r,q,rfl,hR,k1,k2⟩:=h;refine⟨_,(aa (aw 1 A3.nd (pcD KG hr T.NH ay (pa1 (pv 0))))
   (aa (aw 2 A3.nd (aM (pv 0) T.ar T.dS cF hr T.gO ay (pa1 (aB T.FH))))
   (aa (aR (oQ (gb (qG qR qR ag (aL fj T.cC (pa1 (pv 2))) (aB T.sj))) (lO (aF jX (n0 nh T.JM (pa1 (pv 2))) (aB T.sq)))).pt (ah (bo T.aJ (by rfl))) aI)
   (ah (aD (ao aH (pv 1) (n0 nh T.JM (pa1 (pv 2))))))))),?_⟩
 refine⟨_,rfl,r,q,rfl,hR,fun H' kp hR'=>?_⟩;refine bJ rfl hR' DW fun H2 kp2 hR2=>?_
 generalize hd:(unsigned q).takeWhile digit=d at *;have hdd:∀c∈d,digit c=true:=fun c hc=>by rw[<-hd]at hc;exact bF hc
 rw[Bx hdd];have hdl:d.length<=65600:=by
  have h1:=hR'.len;have h2:=len_takeWhile digit (unsigned q);rw[hd]at h2
  lia
 have hz:=Sg35.cI q;rw[hd]at hz;have hlen:(sg d).length<=sizeLine:=by rw[bT,sizeLine_eq];lia
 by_cases h0:d=[]
 .rw[if_pos (.inl h0)]at hz;subst h0;exact⟨_,rfl,_,rfl,hlen,_,_,rfl,rfl,false,congrArg V.bl (decide_eq_false (by rw[bT];simp)),aT ⟨_,rfl,a9 (a9 (k1 hz _))⟩⟩
 have hp:0<d.length:=length_pos_iff.mpr h0;refine⟨_,rfl,_,rfl,hlen,_,_,rfl,rfl,true,congrArg V.bl (decide_eq_true (by rw[bT];lia)),a9 ?_⟩;by_cases h5:5<d.length
 .rw[if_pos (.inr (.inl h5))]at hz;exact⟨_,_,rfl,rfl,false,congrArg V.bl (decide_eq_false (by rw[bT];lia)),a9 (a9 (k1 hz _))⟩
 refine⟨_,_,rfl,rfl,true,congrArg V.bl (decide_eq_true (by rw[bT];lia)),aT ?_⟩;have hi:=BE h0 hdd (by lia);by_cases hm:MOST<natOf d
 .rw[if_pos (.inr (.inr hm))]at hz;exact⟨_,rfl,_,_,rfl,hi,(by rw[bT];lia),_,_,rfl,rfl,true,congrArg V.bl (decide_eq_true (show(32767:Int)<((natOf d:Nat):Int) by unfold MOST at hm;lia)),a9 (k1 hz _)⟩
 .rw[if_neg (by rintro(z|z|z);exact h0 z;exact h5 z;exact hm z)]at hz;refine⟨_,rfl,_,_,rfl,hi,(by rw[bT];lia),_,_,rfl,rfl,false,congrArg V.bl (decide_eq_false (show ¬(32767:Int)<((natOf d:Nat):Int) by unfold MOST at hm;lia)),aT ?_⟩;have hk:=k2 _ _ hz H2 (kp.trans kp2) (by rw[<-hd,Sg35.cA];exact hR2);refine⟨_,rfl,_,rfl,_,_,rfl,hi,(by rw[bT];lia),_,_,rfl,rfl,.inl (by split<;>decide),?_⟩;by_cases hh:q.head?=some 45
  .rw[if_pos hh]at hk;have e:(if q.head?=some 45 then(-1:Int)else 1)*((natOf d:Nat):Int)=-((natOf d:Nat):Int):=by rw[if_pos hh];lia
   exact(congrArg (fun z=>Q (V.int z) H2) e).mpr hk
  .rw[if_neg hh]at hk;have e:(if q.head?=some 45 then(-1:Int)else 1)*((natOf d:Nat):Int)=((natOf d:Nat):Int):=by rw[if_neg hh];lia
   exact(congrArg (fun z=>Q (V.int z) H2) e).mpr hk
theorem Sb(cF:T.lD)(lE:T.DR)(uV:T.Kd)(gn:T.uN):T.DO:=by
 refine T.CI.fn.bz qu fun H Q E hr h=>?_
 obtain⟨r,q,rfl,hR,k1,k2⟩:=h;refine⟨_,(aa (aw 1 qu.nd (cW lS))
   (aa (aK (aM (pv 0) T.ar T.dS cF hr T.gO ay (pa1 (aB T.eD))))
   (aa (aw 2 qu.nd (aM (pv 0) T.ar T.ig lE hr T.ph ay (pa1 (aB T.iL))))
   (aa (eu (cV (pv 2)) (aa (aK (iA F.plainAttrs_list F.slot_list_append F.type_list_append eN (pv 1) (pa1 (pcD uV hr T.Gj ay (pa1 (pv 0))))))
   (aa (aK (aM (pv 0) T.ar T.dS cF hr T.gO ay (pa1 (aB T.eD))))
   (aa (aw 3 qu.nd (aM (pv 0) T.ar T.gL gn hr T.ni ay (pa1 aN)))
   (aa (aK (aM (pv 0) T.ar T.dS cF hr T.gO ay (pa1 (aB T.eD))))
   (ah (aw 2 qu.nd (Vm (pv 3) (Bi (aM (pv 0) T.ar T.ig lE hr T.ph ay (pa1 (aB T.iL))))))))))))
   (ah (aD (pv 1))))))),?_⟩
 dsimp only[bq];refine⟨zero_le _,fun p hp=>?_⟩;have hR1:RdR a (upd H p (.lst [])) r q:=hR.eC (af.new hp);have hrp:p≠r:=(hR.ne hp).symm;refine bJ rfl hR1 et fun H2 kp2 hR2=>?_
 refine wJ rfl hR2 tX ?_;rw[rP,eW];rw[eW]at hR2;have hp2:LsI H2 p []:=kp2.one ae hrp;have K2:af [r] H H2:=(af.new hp).trans kp2;refine⟨fun m Y H'=>∃(t:B)(l:List Int)(more:Bool)(cm:Option V),Y=[some (.ref r),some (.ref p),some (.bl more),cm]/\af [r] H H'/\RdR a H' r t/\LsI H' p l/\l.length+t.length<=65600/\
  (more=true->rowAt q=(bf t).map fun y=>(l++y.1,y.2))/\(more=false->rowAt q=some (l,t))/\m=t.length,⟨_,Sg35.skip q,[],Sg35.beginsNumber (Sg35.skip q),none,rfl,K2,hR2,hp2,?_,fun hb=>?_,fun hb=>?_,rfl⟩,?_⟩
 .have:=hR2.len;simpa using this
 .unfold rowAt;rw[if_pos hb];cases bf (Sg35.skip q)<;>rfl
 .unfold rowAt;rw[if_neg (by rw[hb];exact Bool.false_ne_true)]
 rintro m Y H3 ⟨t,l,more,cm,rfl,K3,hR3,hp3,hsz,hmt,hmf,rfl⟩;refine⟨_,rfl,_,rfl,?_⟩;cases more with
 |false=>
  refine aT ⟨_,rfl,?_⟩;exact k2 l t p (hmf rfl) hp H3 K3 hR3 hp3
 |true=>
  have d7:=hmt rfl;refine a9 ⟨fun Y' H'=>∃(t':B)(l':List Int)(more:Bool)(cm:Option V),Y'=[some (.ref r),some (.ref p),some (.bl more),cm]/\af [r] H H'/\RdR a H' r t'/\LsI H' p l'/\l'.length+t'.length<=65600/\
   (more=true->rowAt q=(bf t').map fun y=>(l'++y.1,y.2))/\(more=false->rowAt q=some (l',t'))/\t'.length<t.length,fun Y' H' ⟨t',l',more,cm,e1,e2,e3,e4,e5,e6,e7,e8⟩=>⟨_,e8,t',l',more,cm,e1,e2,e3,e4,e5,e6,e7,rfl⟩,?_⟩
  refine⟨_,rfl,.inl ⟨rfl,_,SqL.of hp3⟩,_,rfl,r,t,rfl,hR3,fun hn=>k1 ?_,fun z t1 hz H4 kp4 hR4=>?_⟩
  .rw[d7,Sg35.j4 hn];rfl
  have ht1:=Sg35.di hz;have hp4:LsI H4 p l:=kp4.one hp3 hrp;refine⟨p,_,_,rfl,rfl,hp4,(by rw[length_map,sizeLine_eq];lia),?_⟩;have K5:af [r] H (upd H4 p (.lst (l.map V.int++[V.int z]))):=af.drop (K3.trans kp4) (af.set (by simp) (by rw[hp4];exact trivial)) hp;have hR5:RdR a (upd H4 p (.lst (l.map V.int++[V.int z]))) r t1:=hR4.keep (M:=[p]) (af.set (by simp) (by rw[hp4];exact trivial)) (by simpa using hrp.symm);have hp5:LsI (upd H4 p (.lst (l.map V.int++[V.int z]))) p (l++[z]):=by
   unfold LsI;rw[ae,map_append];rfl
  generalize upd H4 p (.lst (l.map V.int++[V.int z]))=H5 at K5 hR5 hp5 ⊢;refine bJ rfl hR5 et fun H6 kp6 hR6=>?_
  rw[eW]at hR6;have hl1:=aW t1;refine lX rfl hR6 EU (by decide) (fun t2 ht2 H7 kp7 hR7=>?_) (fun hnc=>?_)
  .refine bJ rfl hR7 et fun H8 kp8 hR8=>?_
   rw[eW]at hR8;have hl2:=aW t2;have hl3:=congrArg List.length ht2;rw[length_append,length_cons,length_nil]at hl3;refine⟨_,rfl,_,rfl,a9 ⟨Sg35.skip t2,l++[z],true,_,rfl,K5.trans (kp6.trans (kp7.trans kp8)),hR8,kp8.one (kp7.one (kp6.one hp5 hrp) hrp) hrp,?_,fun _=>?_,(nomatch ·),?_⟩⟩
   .rw[length_append,length_cons,length_nil];lia
   .rw[d7,Sg35.tH hz ht2,Option.map_map];congr 1
    funext y
    simp
   .lia
  .refine bJ rfl hR6 et fun H8 kp8 hR8=>?_
   rw[eW,bO]at hR8;refine⟨_,rfl,_,rfl,aT ?_⟩;refine wJ rfl hR8 tX ?_;rw[rP];refine⟨Sg35.skip t1,l++[z],_,_,rfl,K5.trans (kp6.trans kp8),hR8,kp8.one (kp6.one hp5 hrp) hrp,?_,fun hb=>?_,fun hb=>?_,?_⟩
   .rw[length_append,length_cons,length_nil];lia
   .rw[d7,Sg35.v7 hz hb,Option.map_map];congr 1
    funext y
    simp
   .rw[d7,Sg35.v8 hz hb hnc];rfl
   .lia
theorem Te(fC:T.sM)(uV:T.Kd)(jB:T.Am):T.Kg:=by
 refine T.CL.fn.bz A5 fun H Q E hr h=>?_
 obtain⟨x,b,rfl,hx,k1,k2⟩:=h;refine⟨_,(aa (aw 1 A5.nd (bW T.gC fC hr T.fL T.pf ay (pa1 (pv 0))))
   (aa (aw 2 A5.nd (pcD uV hr T.Gj ay (pa1 (pv 1))))
   (aa (aK (eA (pv 1) T.ar T.ka jB hr T.uJ ay))
   (ah (aD (pv 2)))))),?_⟩
 refine eO (fun Q q=>⟨_,rfl,q⟩) hx fun r H1 hr1 kp1 hR1=>?_
 refine⟨_,rfl,r,b,rfl,hR1,fun hn=>k1 ?_,fun z t hz H2 kp2 hR2=>?_⟩
 .unfold single;rw[hn];rfl
 refine jd rfl hR2 (fun ht=>?_) (fun ht=>k1 ?_)
 .subst ht;exact⟨_,rfl,k2 z H2 (by unfold single;rw[hz];rfl) (kp1.drop kp2 hr1)⟩
 .unfold single;rw[hz];exact if_neg ht
theorem Td(sS:T.Kg):T.Kf:=by
 refine T.CK.fn.bz GI fun H Q E hr h=>?_
 obtain⟨x,b,lo,hi,rfl,hx,k1,k2⟩:=h;refine⟨_,(aa (aw 3 GI.nd (pcD sS hr T.CL ay (pa1 (pv 0))))
   (aa (aR (gb (qG qR qR (pv 1) (pv 3) (pv 2))) (ah (bo T.aJ (by rfl))) aI)
   (ah (aD (pv 3))))),?_⟩
 refine⟨_,rfl,x,b,rfl,hx,fun hn=>k1 fun z hz=>?_,fun z H1 hz kp=>?_⟩
 .rw[hn]at hz;cases hz
 refine⟨_,rfl,_,rfl,_,_,rfl,rfl,_,rfl,?_⟩;by_cases h1:lo<=z
 .refine dT h1 ⟨_,rfl,_,_,rfl,rfl,_,rfl,?_⟩;by_cases h2:z<=hi
  .rw[decide_eq_true h2];exact aT ⟨_,rfl,k2 z H1 hz h1 h2 kp⟩
  .rw[decide_eq_false h2];refine a9 (k1 (fun y hy=>?_) _);rw[hz]at hy;cases hy;exact fun q=>h2 q.2
 .refine dF h1 ⟨_,rfl,a9 (k1 (fun y hy=>?_) _)⟩;rw[hz]at hy;cases hy;exact fun q=>h1 q.1
theorem So(fC:T.sM)(nB:T.DO)(jB:T.Am):T.PZ:=by
 refine T.NG.fn.bz AZ fun H Q E hr h=>?_
 obtain⟨x,b,rfl,hx,k1,k2⟩:=h;refine⟨_,(aa (aw 1 AZ.nd (bW T.gC fC hr T.fL T.pf ay (pa1 (pv 0))))
   (aa (aw 2 AZ.nd (pcD nB hr T.CI ay (pa1 (pv 1))))
   (aa (aK (eA (pv 1) T.ar T.ka jB hr T.uJ ay))
   (ah (aD (pv 2)))))),?_⟩
 refine eO (fun Q q=>⟨_,rfl,q⟩) hx fun r H1 hr1 kp1 hR1=>?_
 have d7:=vN b;refine⟨_,rfl,r,b,rfl,hR1,fun hn=>k1 ?_,fun l t p hl hp H2 kp2 hR2 hp2=>?_⟩
 .rw[d7,hn];rfl
 rw[hl]at d7;refine jd rfl hR2 (fun ht=>?_) (fun ht=>k1 ?_)
 .subst ht;exact⟨_,rfl,k2 l p H2 d7 (kp1.bP hp) (kp1.drop kp2 hr1) hp2⟩
 .rw[d7];exact if_neg ht
theorem bd{m:Mat}{z:Int}(h:Small m)(hz:z∈[m.a,m.b,m.c,m.d,m.e,m.f]):-(2^64)<z/\z<2^64:=by
 have:=h z hz;omega
theorem F2{Y:L2.St}{j:Nat}{v:Option V}:wipe ((wipe Y [j]).set j v) [j]=wipe Y [j]:=by
 show((Y.set j none).set j v).set j none=Y.set j none;rw[set_set,set_set]
theorem lcT{K:Frag}{t D:Addr}{xs:List V}{f:V->V}{te:TE}{j:Nat}{Y:L2.St}{H1:Hp}{Qd:Hp->Prop}(hx:SqT K H1 t xs)(hD:H1 D=none)(hlen:xs.length<sizeLine)
  (he:∀(i:Nat)(x:V)(H2:Hp)(R:VK),xs[i]?=some x->R (f x) H2->te ((wipe Y [j]).set j (some x)) H2 R) (k:∀H',af [] H1 H'->H' D=some (.lst (xs.map f))->Qd H'):
  ∃W:Nat->Nat->Hp->Prop,(∃m,W 0 m (upd H1 D (.lst [])))/\∀i m H,W i m H->
   ((Itt K t).stop i H/\Qd H)\/((Itt K t).go i H/\∃Nx:Hp->Prop,(∀H',Nx H'->∃m',m'<m/\W (i+1) m' H')/\∀x H',(Itt K t).yld i H x H'->g9 j x (wipe Y [j]) H' fun Y2 H2=>wipe Y2 [j]=wipe Y [j]/\QP Y2 H2 fun b H3=>
    if b=true then te Y2 H3 fun y H4=>∃acc,H4 D=some (.lst acc)/\acc.length<sizeLine/\Nx (upd H4 D (.lst (acc++[y])))else Nx H3):=by
 refine TB (fun i H'=>af [] H1 H'/\H' D=some (.lst ((xs.take i).map f))) ⟨af.new hD,ae⟩ (fun i H' _ hp=>hp.1.sqT hx) (fun i x H' hi hp=>?_) (fun H' hp=>k H' hp.1 (by have:=hp.2;rw[take_length]at this;exact this));have hlt:i<xs.length:=(List.getElem?_eq_some_iff.mp hi).1;refine⟨F2,he i x H' _ hi ⟨_,hp.2,?_,?_,?_⟩⟩
 .rw[length_map,length_take];omega
 .exact af.drop hp.1 (af.set (by simp) (by rw[hp.2];exact trivial)) hD
 .rw[ae,take_succ,hi,map_append];rfl
theorem SA:T.P8:=by
 refine T.NM.fn.bz Rh fun H Q E hr h=>?_
 obtain⟨p,q,m,n,rfl,hm,hn,hs,k⟩:=h;refine⟨_,(ah (aD (bH (ai (ao aQ (ao aH (az aA (pv 0) ag) (az aA (pv 1) ag)) (ao aH (az aA (pv 0) ag) (az aA (pv 1) ag))) (ai (ao aQ (ao aH (az aA (pv 0) ag) (az aA (pv 1) ag)) (ao aH (az aA (pv 0) ag) (az aA (pv 1) ag))) (ai (ao aQ (ao aH (az aA (pv 0) ag) (az aA (pv 1) ag)) (ao aH (az aA (pv 0) ag) (az aA (pv 1) ag))) (ai (ao aQ (ao aH (az aA (pv 0) ag) (az aA (pv 1) ag)) (ao aH (az aA (pv 0) ag) (az aA (pv 1) ag))) (ai (ao aQ (ao aQ (ao aH (az aA (pv 0) ag) (az aA (pv 1) ag)) (ao aH (az aA (pv 0) ag) (az aA (pv 1) ag))) (az aA (pv 0) ag)) (pa1 (ao aQ (ao aQ (ao aH (az aA (pv 0) ag) (az aA (pv 1) ag)) (ao aH (az aA (pv 0) ag) (az aA (pv 1) ag))) (az aA (pv 0) ag))))))))))),?_⟩;dsimp only[bq];refine⟨_,rfl,_,_,_,_,rfl,rfl,hm,rfl,_,rfl,_,_,_,_,rfl,rfl,hn,rfl,_,_,rfl,rfl,.inl (bd hs (by simp)),_,rfl,_,_,_,_,rfl,rfl,hm,rfl,_,rfl,_,_,_,_,rfl,rfl,hn,rfl,_,_,rfl,rfl,.inl (bd hs (by simp)),_,_,rfl,rfl,
  _,rfl,_,_,_,_,rfl,rfl,hm,rfl,_,rfl,_,_,_,_,rfl,rfl,hn,rfl,_,_,rfl,rfl,.inl (bd hs (by simp)),_,rfl,_,_,_,_,rfl,rfl,hm,rfl,_,rfl,_,_,_,_,rfl,rfl,hn,rfl,_,_,rfl,rfl,.inl (bd hs (by simp)),_,_,rfl,rfl,
  _,rfl,_,_,_,_,rfl,rfl,hm,rfl,_,rfl,_,_,_,_,rfl,rfl,hn,rfl,_,_,rfl,rfl,.inl (bd hs (by simp)),_,rfl,_,_,_,_,rfl,rfl,hm,rfl,_,rfl,_,_,_,_,rfl,rfl,hn,rfl,_,_,rfl,rfl,.inl (bd hs (by simp)),_,_,rfl,rfl,
  _,rfl,_,_,_,_,rfl,rfl,hm,rfl,_,rfl,_,_,_,_,rfl,rfl,hn,rfl,_,_,rfl,rfl,.inl (bd hs (by simp)),_,rfl,_,_,_,_,rfl,rfl,hm,rfl,_,rfl,_,_,_,_,rfl,rfl,hn,rfl,_,_,rfl,rfl,.inl (bd hs (by simp)),_,_,rfl,rfl,
  _,rfl,_,_,_,_,rfl,rfl,hm,rfl,_,rfl,_,_,_,_,rfl,rfl,hn,rfl,_,_,rfl,rfl,.inl (bd hs (by simp)),_,rfl,_,_,_,_,rfl,rfl,hm,rfl,_,rfl,_,_,_,_,rfl,rfl,hn,rfl,_,_,rfl,rfl,.inl (bd hs (by simp)),_,_,rfl,rfl,_,rfl,_,_,_,_,rfl,rfl,hm,rfl,_,_,rfl,rfl,
  _,rfl,_,_,_,_,rfl,rfl,hm,rfl,_,rfl,_,_,_,_,rfl,rfl,hn,rfl,_,_,rfl,rfl,.inl (bd hs (by simp)),_,rfl,_,_,_,_,rfl,rfl,hm,rfl,_,rfl,_,_,_,_,rfl,rfl,hn,rfl,_,_,rfl,rfl,.inl (bd hs (by simp)),_,_,rfl,rfl,_,rfl,_,_,_,_,rfl,rfl,hm,rfl,_,_,rfl,rfl,sl6,fun t ht=>k t _ (af.new ht) (SqT.of ae)⟩
def ab(z:Int):Int:=if z<0 then -z else z
theorem DN{z c:Int}:ab z<=c↔(z.natAbs:Int)<=c:=by
 unfold ab;split<;>omega
def abV:V->V
 |.int i=>.int (ab i)
 |v=>v
theorem S7:T.Qx:=by
 refine T.N4.fn.bz qy fun H Q E hr h=>?_
 obtain⟨p,m,rfl,hm,k1,k2⟩:=h;refine⟨_,(aa (aR (aF jX (aL (Jv rfl) T.sD (pa1 (qN rfl qy.nd (HG (gH AQ (pv 0) vU (eY ag))) (fW (own:=[("factor",1)]) (by with_unfolding_all rfl)) (fun s H C cl fp=>(bG 1 qy.nd)) (fun s H C cl fp=>gV) (fun s H C cl fp=>(aL kA T.sE (pa1 (pv 1))))))) (aB T.m9)) (ah (bo T.aJ (by rfl))) aI)
   (ah (aR (aF jX (aL (Jv rfl) T.sD (pa1 (qN rfl qy.nd (HG (gH AQ (pv 0) (eY ag) vU)) (fW (own:=[("shift",2)]) (by with_unfolding_all rfl)) (fun s H C cl fp=>(bG 2 qy.nd)) (fun s H C cl fp=>gV) (fun s H C cl fp=>(aL kA T.sE (pa1 (pv 2))))))) (aB T.oA)) (ah (bo T.aJ (by rfl))) aI))),?_⟩
 dsimp only[bq];refine⟨_,rfl,_,rfl,p,_,rfl,hm,(fun z=>absurd z.2 (by show ¬((4:Nat)=6);decide)),fun t ht=>⟨t,rfl,⟨_,SqT.of ae⟩,fun D hD=>?_⟩⟩;refine lcT (xs:=[.int m.a,.int m.b,.int m.c,.int m.d]) (f:=abV) (SqT.of ae) hD (by show 4<sizeLine;decide) (fun i x H2 R hi hR=>?_) fun H2 kp2 hD2=>?_
 .obtain⟨z,rfl⟩:∃z,x=V.int z:=by
   have:=mem_of_getElem? hi;simp only[mem_cons,not_mem_nil,or_false]at this;rcases this with rfl|rfl|rfl|rfl<;>exact⟨_,rfl⟩
  exact⟨_,rfl,_,rfl,hR⟩
 refine⟨D,[ab m.a,ab m.b,ab m.c,ab m.d],rfl,SqL.of hD2,(by show 0<4;decide),fun mx hmx hle=>?_⟩;refine⟨_,_,rfl,rfl,_,rfl,?_⟩;by_cases h1:(1048576:Int)<mx
 .refine dT h1 (k1 ?_ _);unfold Mat.fits;rw[Bool.and_eq_false_iff]
  left
  rw[all_eq_false];simp only[mem_cons,not_mem_nil,or_false]at hmx;have hh:∀z:Int,mx=ab z->¬(decide (z.natAbs<=1048576)=true):=fun z hz=>by
   have:=(DN (z:=z) (c:=1048576));simp only[decide_eq_true_eq];intro hc;have:=this.mpr (by omega);omega
  rcases hmx with h|h|h|h
  .exact⟨m.a,by simp,hh _ h⟩
  .exact⟨m.b,by simp,hh _ h⟩
  .exact⟨m.c,by simp,hh _ h⟩
  .exact⟨m.d,by simp,hh _ h⟩
 refine dF h1 ?_;have hm2:dY K H2 p m:=kp2.sqT ((af.new (M:=[]) ht).sqT hm);refine⟨_,rfl,_,rfl,p,_,rfl,hm2,(fun z=>absurd z.1 (by show ¬((4:Nat)=0);decide)),fun t2 ht2=>⟨t2,rfl,⟨_,SqT.of ae⟩,fun D2 hD3=>?_⟩⟩;refine lcT (xs:=[.int m.e,.int m.f]) (f:=abV) (SqT.of ae) hD3 (by show 2<sizeLine;decide) (fun i x H2 R hi hR=>?_) fun H3 kp3 hD4=>?_
 .obtain⟨z,rfl⟩:∃z,x=V.int z:=by
   have:=mem_of_getElem? hi;simp only[mem_cons,not_mem_nil,or_false]at this;rcases this with rfl|rfl<;>exact⟨_,rfl⟩
  exact⟨_,rfl,_,rfl,hR⟩
 refine⟨D2,[ab m.e,ab m.f],rfl,SqL.of hD4,(by show 0<2;decide),fun my hmy V8=>?_⟩;refine⟨_,_,rfl,rfl,_,rfl,?_⟩;by_cases h2:(16777216:Int)<my
 .refine dT h2 (k1 ?_ _);unfold Mat.fits;rw[Bool.and_eq_false_iff]
  right
  rw[all_eq_false];simp only[mem_cons,not_mem_nil,or_false]at hmy;have hh:∀z:Int,my=ab z->¬(decide (z.natAbs<=16777216)=true):=fun z hz=>by
   have:=(DN (z:=z) (c:=16777216));simp only[decide_eq_true_eq];intro hc;have:=this.mpr (by omega);omega
  rcases hmy with h|h
  .exact⟨m.e,by simp,hh _ h⟩
  .exact⟨m.f,by simp,hh _ h⟩
 refine dF h2 (k2 ?_ H3 ?_)
 .unfold Mat.fits;have g1:∀z:Int,ab z<=mx->decide (z.natAbs<=1048576)=true:=fun z hz=>by
   have:=(DN (z:=z) (c:=mx)).mp hz;simp only[decide_eq_true_eq];omega
  have g2:∀z:Int,ab z<=my->decide (z.natAbs<=16777216)=true:=fun z hz=>by
   have:=(DN (z:=z) (c:=my)).mp hz;simp only[decide_eq_true_eq];omega
  simp only[all_cons,all_nil,Bool.and_true,Bool.and_eq_true];exact⟨⟨g1 _ (hle _ (by simp)),g1 _ (hle _ (by simp)),g1 _ (hle _ (by simp)),g1 _ (hle _ (by simp))⟩,g2 _ (V8 _ (by simp)),g2 _ (V8 _ (by simp))⟩
 .exact((af.new ht).trans kp2).trans ((af.new ht2).trans kp3)
theorem C8(z:Int):Hq z=if z%90=0/\z.natAbs<=270 then some (if (z/90)%4=0 then Mat.one else if (z/90)%4=1 then⟨0,1,-1,0,0,0⟩else if (z/90)%4=2 then⟨-1,0,0,-1,0,0⟩else⟨0,-1,1,0,0,0⟩)else none:=by
 unfold Hq turning;rw[if_neg (by decide +kernel),if_neg (by decide +kernel),if_neg (by decide +kernel),if_pos rfl];rfl
theorem Mi:T.J2:=by
 refine T.Gb.fn.bz LY fun H Q E hr h=>?_
 obtain⟨z,rfl,k1,k2⟩:=h;refine⟨_,(aa (aR (oQ (aF jv (ao qQ (pv 0) ag) ag) (lO (aF jX (aL kA T.sE (pa1 (pv 0))) (aB T.oB)))).pt (ah (bo T.aJ (by rfl))) aI)
   (ah (aD (az aA (i6 (v:=.ref _) (by rfl) T.oz rfl) (ao qQ (ao i9 (pv 0) ag) ag))))),?_⟩
 dsimp only[bq];have rM:=C8 z;refine⟨_,rfl,_,_,rfl,rfl,(by show(0:Int)<90;decide),rfl,_,rfl,?_⟩;by_cases h1:z%90=0
 .have e1:(!decide (V.int (z%90)=V.int 0))=false:=by rw[h1];rfl
  rw[e1];refine aT ⟨_,rfl,_,rfl,_,_,rfl,rfl,_,rfl,?_⟩;by_cases h2:(270:Int)<(if z<0 then -z else z)
  .refine dT h2 (k1 ?_ _);rw[rM,if_neg];rintro⟨_,q⟩;split at h2<;>omega
  .refine dF h2 ⟨_,rfl,_,_,rfl,rfl,⟨by decide,by decide⟩,_,_,rfl,rfl,(by show(0:Int)<4;decide),?_⟩;have hz:z.natAbs<=270:=by split at h2<;>omega
   rw[if_pos ⟨h1,hz⟩]at rM;have hk:z/90%4=0\/z/90%4=1\/z/90%4=2\/z/90%4=3:=by omega
   rcases hk with e|e|e|e
   .rw[e]at rM;refine⟨_,_,_,_,rfl,rfl,T.Dt H,(by rw[e];rfl),k2 _ _ rM (T.VM H)⟩
   .rw[e]at rM;refine⟨_,_,_,_,rfl,rfl,T.Dt H,(by rw[e];rfl),k2 _ _ rM (T.VL H)⟩
   .rw[e]at rM;refine⟨_,_,_,_,rfl,rfl,T.Dt H,(by rw[e];rfl),k2 _ _ rM (T.VJ H)⟩
   .rw[e]at rM;refine⟨_,_,_,_,rfl,rfl,T.Dt H,(by rw[e];rfl),k2 _ _ rM (T.VI H)⟩
 .have e1:(!decide (V.int (z%90)=V.int 0))=true:=by
   rw[decide_eq_false]
   .rfl
   .intro q;injection q with q;exact h1 q
  rw[e1];refine a9 (a9 (k1 ?_ _));rw[rM,if_neg (fun q=>h1 q.1)]
theorem T1(n:Nat):inV (.int (n:Int)) [.int 1,.int 2]=(decide (n=1)||decide (n=2)):=by
 rw[Bool.eq_iff_iff];simp only[inV,any_cons,any_nil,Bool.or_false,eqV,Bool.or_eq_true,decide_eq_true_eq,beq_iff_eq];omega
theorem lg{x:Str}{b:B}(hx:x=sg b)(s:String):decide (V.str x=V.str (s:Str))=decide (b=ascii s):=by
 rw[Bool.eq_iff_iff,decide_eq_true_eq,decide_eq_true_eq,hx,lit];constructor
 .intro z;injection z with z;exact jT z
 .intro z;rw[z]
theorem decInt(n:Nat)(k:Nat):decide (V.int (n:Int)=V.int (k:Int))=decide (n=k):=by
 rw[Bool.eq_iff_iff,decide_eq_true_eq,decide_eq_true_eq];constructor
 .intro z;injection z with z;omega
 .intro z;rw[z]
theorem LsI.keep{H H':Hp}{p:Addr}{l:List Int}(h:LsI H p l)(k:af [] H H'):LsI H' p l:=k.at h
def trT:List Int->Option Mat
 |[x]=>some ⟨1,0,0,1,x,0⟩
 |[x,y]=>some ⟨1,0,0,1,x,y⟩
 |_=>none
def scT:List Int->Option Mat
 |[s]=>some ⟨s,0,0,s,0,0⟩
 |[s,t]=>some ⟨s,0,0,t,0,0⟩
 |_=>none
def mxT:List Int->Option Mat
 |[a,b,c,d,e,f]=>some ⟨a,b,c,d,e,f⟩
 |_=>none
def roT:List Int->Option Mat
 |[z]=>Hq z
 |_=>none
theorem AA(b:B)(l:List Int):turning b l=if b=ascii "translate" then trT l else if b=ascii "scale" then scT l else if b=ascii "matrix" then mxT l else if b=ascii "rotate" then roT l else none:=by
 unfold turning;by_cases h1:b=ascii "translate"
 .rw[if_pos h1,if_pos h1];rfl
 rw[if_neg h1,if_neg h1];by_cases h2:b=ascii "scale"
 .rw[if_pos h2,if_pos h2];rfl
 rw[if_neg h2,if_neg h2];by_cases h3:b=ascii "matrix"
 .rw[if_pos h3,if_pos h3];rfl
 rw[if_neg h3,if_neg h3];by_cases h4:b=ascii "rotate"
 .rw[if_pos h4,if_pos h4]
  match l with
  |[]=>rfl
  |[z]=>exact(C8 z).symm
  |_::_::_=>rfl
 rw[if_neg h4,if_neg h4]
theorem SX(Cv:T.J2):T.Qq:=by
 refine T.NZ.fn.bz Rt fun H Q E hr h=>?_
 obtain⟨x,b,p,l,rfl,hx,hl,k1,k2⟩:=h;refine⟨_,(aa (aR (lP (aF dr (pv 0) aN) (i4 (aF iB (aL aP T.cC (pa1 (pv 1))) (bH (ai ag (pa1 ag)))))).pt (ah (aD (bH (ai ag (ai ag (ai ag (ai ag (ai (az bh (pv 1) ag) (pa1 (mE (aF dr (aL aP T.cC (pa1 (pv 1))) ag) (az bh (pv 1) ag) ag)))))))))) aI)
   (aa (aR (lP (aF dr (pv 0) aN) (i4 (aF iB (aL aP T.cC (pa1 (pv 1))) (bH (ai ag (pa1 ag)))))).pt (ah (aD (bH (ai (az bh (pv 1) ag) (ai ag (ai ag (ai (az bh (pv 1) (ju fZ ag)) (ai ag (pa1 ag))))))))) aI)
   (aa (aR (lP (aF dr (pv 0) aN) (i4 (aF dr (aL aP T.cC (pa1 (pv 1))) ag))).pt (ah (aD (n0 tU T.JK (pa1 (pv 1))))) aI)
   (aa (aR (lP (aF dr (pv 0) aN) (i4 (aF dr (aL aP T.cC (pa1 (pv 1))) ag))).pt (ah (aD (pcD Cv hr T.Gb ay (pa1 (az bh (pv 1) ag))))) aI)
   (ah (bo T.aJ (by rfl))))))),?_⟩
 dsimp only[bq];rw[AA]at k1 k2;have ts:ascii "translate"≠ascii "scale":=by decide +kernel
 have tm:ascii "translate"≠ascii "matrix":=by decide +kernel
 have tr:ascii "translate"≠ascii "rotate":=by decide +kernel
 have sm:ascii "scale"≠ascii "matrix":=by decide +kernel
 have sr:ascii "scale"≠ascii "rotate":=by decide +kernel
 have mr:ascii "matrix"≠ascii "rotate":=by decide +kernel
 have h12:∀{H':Hp}{R:Bool->Hp->Prop},LsI H' p l->(∀t0,H' t0=none->R (decide (l.length=1)||decide (l.length=2)) (upd H' t0 (.tup [.int 1,.int 2])))->
   CN (tOp (rIn K false) (tCB (fun xs H Q=>∃p ys,xs=[V.ref p]/\(SqL K H p ys\/SqT K H p ys)/\Q (V.int ys.length) H) (cb (cU 1) fE)) (QR (cb (tC (V.int 1)) (cb (tC (V.int 2)) fE)))) [some (V.str x),some (V.ref p)] H' R:=by
  intro H' R hl' k;refine⟨_,rfl,p,_,rfl,.inl (SqL.of hl'),sl2,fun t0 ht0=>⟨t0,_,rfl,.inr (SqT.of ae),rfl,rfl,_,rfl,?_⟩⟩;have e:inV (V.int ((l.map V.int).length:Int)) [.int 1,.int 2]=(decide (l.length=1)||decide (l.length=2)):=by rw[length_map];exact T1 _
  have k':=k t0 ht0;rw[<-e]at k';exact k'
 have hlen:∀{H':Hp}{R:Bool->Hp->Prop}{n:Nat},LsI H' p l->R (decide (l.length=n)) H'->
   CN (tOp rEq (tCB (fun xs H Q=>∃p ys,xs=[V.ref p]/\(SqL K H p ys\/SqT K H p ys)/\Q (V.int ys.length) H) (cb (cU 1) fE)) (tC (V.int (n:Int)))) [some (V.str x),some (V.ref p)] H' R:=by
  intro H' R n hl' k;refine⟨_,rfl,p,_,rfl,.inl (SqL.of hl'),rfl,_,rfl,?_⟩;have e:decide (V.int ((l.map V.int).length:Int)=V.int (n:Int))=decide (l.length=n):=by rw[length_map];exact decInt _ _
  rw[<-e]at k;exact k
 refine⟨_,rfl,rfl,decide (b=ascii "translate"),congrArg V.bl (lg hx _),?_⟩;by_cases w1:b=ascii "translate"
 .rw[if_pos w1]at k1 k2;refine dT w1 (h12 hl fun t0 ht0=>?_);have hl0:LsI (upd H t0 (.tup [.int 1,.int 2])) p l:=hl.keep (af.new ht0);have no:(decide (l.length=1)||decide (l.length=2))=false->trT l=none:=fun h=>by
   simp only[Bool.or_eq_false_iff,decide_eq_false_iff_not]at h;unfold trT;split<;>simp_all
  cases hb:(decide (l.length=1)||decide (l.length=2))with
  |false=>
   refine aT ?_;have F:=k1 (no hb);refine⟨_,rfl,rfl,false,congrArg V.bl ((lg hx _).trans (decide_eq_false (by rw[w1];exact ts))),aT (aT ?_)⟩;refine⟨_,rfl,rfl,false,congrArg V.bl ((lg hx _).trans (decide_eq_false (by rw[w1];exact tm))),aT (aT ?_)⟩;exact⟨_,rfl,rfl,false,congrArg V.bl ((lg hx _).trans (decide_eq_false (by rw[w1];exact tr))),aT (aT (F _))⟩
  |true=>
   have h0:∃u,l[0]?=some u:=⟨l[0]'(by simp at hb;omega),List.getElem?_eq_getElem _⟩;obtain⟨u,hu⟩:=h0;have hu':(l.map V.int)[0]?=some (V.int u):=by rw[List.getElem?_map,hu];rfl
   refine a9 ⟨_,rfl,_,_,_,_,rfl,rfl,SqL.of hl0,dm hu',?_⟩;refine hlen (n:=2) hl0 ?_;by_cases h2:l.length=2
   .rw[decide_eq_true h2];have h1:∃v,l[1]?=some v:=⟨l[1],List.getElem?_eq_getElem _⟩;obtain⟨v,hv⟩:=h1;have hv':(l.map V.int)[1]?=some (V.int v):=by rw[List.getElem?_map,hv];rfl
    have e:trT l=some ⟨1,0,0,1,u,v⟩:=by
     match l,h2,hu,hv with
     |[x,y],_,hu,hv=>cases hu;cases hv;rfl
    refine a9 ⟨_,rfl,_,_,_,_,rfl,rfl,SqL.of hl0,dm hv',sl6,fun t ht2=>k2 _ t _ e ((af.new ht0).trans (af.new ht2)) (SqT.of ae)⟩
   .rw[decide_eq_false h2];have e:trT l=some ⟨1,0,0,1,u,0⟩:=by
     have:l.length=1:=by simp at hb;omega
     match l,this,hu with
     |[x],_,hu=>cases hu;rfl
    refine aT ⟨sl6,fun t ht2=>k2 _ t _ e ((af.new ht0).trans (af.new ht2)) (SqT.of ae)⟩
 rw[if_neg w1]at k1 k2;refine dF w1 (aT ?_);refine⟨_,rfl,rfl,decide (b=ascii "scale"),congrArg V.bl (lg hx _),?_⟩;by_cases w2:b=ascii "scale"
 .rw[if_pos w2]at k1 k2;refine dT w2 (h12 hl fun t0 ht0=>?_);have hl0:LsI (upd H t0 (.tup [.int 1,.int 2])) p l:=hl.keep (af.new ht0);have no:(decide (l.length=1)||decide (l.length=2))=false->scT l=none:=fun h=>by
   simp only[Bool.or_eq_false_iff,decide_eq_false_iff_not]at h;unfold scT;split<;>simp_all
  cases hb:(decide (l.length=1)||decide (l.length=2))with
  |false=>
   refine aT ?_;have F:=k1 (no hb);refine⟨_,rfl,rfl,false,congrArg V.bl ((lg hx _).trans (decide_eq_false (by rw[w2];exact sm))),aT (aT ?_)⟩;exact⟨_,rfl,rfl,false,congrArg V.bl ((lg hx _).trans (decide_eq_false (by rw[w2];exact sr))),aT (aT (F _))⟩
  |true=>
   have h0:∃u,l[0]?=some u:=⟨l[0]'(by simp at hb;omega),List.getElem?_eq_getElem _⟩;obtain⟨u,hu⟩:=h0;have hu':(l.map V.int)[0]?=some (V.int u):=by rw[List.getElem?_map,hu];rfl
   obtain⟨l0,v,hv⟩:∃l0 v,l=l0++[v]:=by
    have hne:l≠[]:=by rintro rfl;simp at hu
    exact⟨l.dropLast,l.getLast hne,(List.dropLast_concat_getLast hne).symm⟩
   have hv':atI (l.map V.int) (-1)=some (V.int v):=by rw[hv,map_append];exact gP _ _
   have e:scT l=some ⟨u,0,0,v,0,0⟩:=by
    have hl2:l.length=1\/l.length=2:=by simpa using hb
    match l,hl2,hu,hv with
    |[x],_,hu,hv=>
     cases hu;have:l0=[]:=by
      have:=congrArg List.length hv;simp at this;exact this
     subst this;cases hv;rfl
    |[x,y],_,hu,hv=>
     cases hu;have h3:=congrArg (fun z=>z.getLast?) hv;simp at h3;subst h3;rfl
    |[],h,_,_=>simp at h
    |_::_::_::_,h,_,_=>simp at h
   refine a9 ⟨_,rfl,_,_,_,_,rfl,rfl,SqL.of hl0,dm hu',_,rfl,_,rfl,_,_,_,_,rfl,rfl,SqL.of hl0,hv',sl6,fun t ht2=>k2 _ t _ e ((af.new ht0).trans (af.new ht2)) (SqT.of ae)⟩
 rw[if_neg w2]at k1 k2;refine dF w2 (aT ?_);refine⟨_,rfl,rfl,decide (b=ascii "matrix"),congrArg V.bl (lg hx _),?_⟩;by_cases w3:b=ascii "matrix"
 .rw[if_pos w3]at k1 k2;refine dT w3 (hlen (n:=6) hl ?_);by_cases h6:l.length=6
  .refine dT h6 ⟨_,rfl,p,_,rfl,.inl ⟨SqL.of hl,fun t ht2=>?_⟩⟩
   match l,h6,hl,k2 with
   |[a1,a2,a3,a4,a5,a6],_,hl,k2=>exact k2 _ t _ rfl (af.new ht2) (SqT.of ae)
  .rw[decide_eq_false h6];have e:mxT l=none:=by
    unfold mxT;split
    .simp at h6
    .rfl
   have F:=k1 e;refine aT ?_;exact⟨_,rfl,rfl,false,congrArg V.bl ((lg hx _).trans (decide_eq_false (by rw[w3];exact mr))),aT (aT (F _))⟩
 rw[if_neg w3]at k1 k2;refine dF w3 (aT ?_);refine⟨_,rfl,rfl,decide (b=ascii "rotate"),congrArg V.bl (lg hx _),?_⟩;by_cases w4:b=ascii "rotate"
 .rw[if_pos w4]at k1 k2;refine dT w4 (hlen (n:=1) hl ?_);by_cases h1:l.length=1
  .rw[decide_eq_true h1]
   match l,h1,hl,k1,k2 with
   |[z],_,hl,k1,k2=>
    exact a9 ⟨_,rfl,_,_,_,_,rfl,rfl,SqL.of hl,rfl,z,rfl,k1,fun m t hm hmt=>k2 m t H hm af.refl hmt⟩
  .rw[decide_eq_false h1];have e:roT l=none:=by
    unfold roT;split
    .simp at h1
    .rfl
   exact aT (k1 e _)
 rw[if_neg w4]at k1;exact dF w4 (aT (k1 rfl _))
theorem IC:("(":Str)=sg [40]:=by decide +kernel
theorem EV:(")":Str)=sg [41]:=by decide +kernel
theorem ER{d:List Nat}(hd:∀c∈d,small c=true):d.map Sg35.tr=d:=by
 have:∀c∈d,Sg35.tr c=id c:=fun c hc=>by
  have h:=hd c hc;unfold small at h;simp only[Bool.and_eq_true,decide_eq_true_eq]at h;exact(lJ (c:=c) (d:=c) (by omega) (by omega) (by omega) (by omega)).mpr rfl
 rw[map_congr_left this,map_id]
theorem LsI.one{r:Addr}{H H':Hp}{p:Addr}{l:List Int}(h:LsI H p l)(k:af [r] H H')(n:p≠r):LsI H' p l:=af.one k h n
theorem Sm(cF:T.lD)(ee:T.pj)(nB:T.DO)(Lh:T.Qq):T.PY:=by
 refine T.NF.fn.bz AY fun H Q E hr h=>?_
 obtain⟨r,q,rfl,hR,k1,k2⟩:=h;refine⟨_,(aa (aw 1 AY.nd (aM (pv 0) T.ar T.dS cF hr T.gO ay (pa1 (aB T.FG))))
   (aa (aK (aM (pv 0) T.ar T.gd ee hr T.lA ay (pa1 aN)))
   (aa (aw 2 AY.nd (pcD nB hr T.CI ay (pa1 (pv 0))))
   (aa (aK (aM (pv 0) T.ar T.gd ee hr T.lA ay (pa1 aN)))
   (ah (aD (pcD Lh hr T.NZ ay (ai (pv 1) (pa1 (pv 2)))))))))),?_⟩
 rw[Sg35.va]at k1 k2;refine bJ rfl hR DV fun H1 kp1 hR1=>?_
 rw[ER fun c hc=>bF hc];rw[<-Sg35.cA]at hR1;generalize hn:q.takeWhile small=n at *;generalize ht:q.drop n.length=t at *;refine je rfl hR1 IC (by decide) (fun t1 e1 H2 kp2 hR2=>?_) (fun hno=>k1 (Sg35.oI fun u hu=>hno u hu));subst e1;rw[show([40]++t1:B)=40::t1 from rfl,Sg35.k8]at k1 k2;refine⟨_,rfl,r,t1,rfl,hR2,fun hn1=>k1 ?_,fun l t2 p hl hp H3 kp3 hR3 hp3=>?_⟩
 .rw[hn1];rfl
 rw[hl]at k1 k2;dsimp only[bind_some]at k1 k2;have hpr:p≠r:=(hR2.ne hp).symm;refine je rfl hR3 EV (by decide) (fun t3 e3 H4 kp4 hR4=>?_) (fun hno=>k1 (Sg35.lH fun u hu=>hno u hu));subst e3;rw[show([41]++t3:B)=41::t3 from rfl,Sg35.vc]at k1 k2;refine⟨_,rfl,_,rfl,_,n,p,l,rfl,rfl,hp3.one kp4 hpr,fun hn1=>k1 (by rw[hn1];rfl),fun m t H5 hm kp5 hmt=>?_⟩;rw[hm]at k2;exact k2 m t3 t rfl H5 (((kp1.trans kp2).trans (kp3.trans kp4)).trans kp5.up) (hR4.eC kp5) hmt
theorem Ca{m:Mat}(h:m.fits=true):Small m:=by
 unfold Mat.fits at h;simp only[all_cons,all_nil,Bool.and_true,Bool.and_eq_true,decide_eq_true_eq]at h;intro z hz;simp only[mem_cons,not_mem_nil,or_false]at hz;rcases hz with rfl|rfl|rfl|rfl|rfl|rfl<;>omega
theorem SW(fC:T.sM)(cF:T.lD)(sQ:T.Ke)(KO:T.P8)(KA:T.PY)(Lo:T.Qx):T.Qp:=by
 refine T.NY.fn.bz vL fun H Q E hr h=>?_
 obtain⟨p,m,x,b,rfl,hm,hs,hx,k1,k2⟩:=h;refine⟨_,(aa (aw 2 vL.nd (bW T.gC fC hr T.fL T.pf ay (pa1 (pv 1))))
   (aa (aw 3 vL.nd (pv 0))
   (aa (aK (aM (pv 2) T.ar T.dS cF hr T.gO ay (pa1 (aB T.eD))))
   (aa (eu (gb (cV (eA (pv 2) T.ar T.jc sQ hr T.sH ay))) (aa (aw 3 vL.nd (pcD KO hr T.NM ay (ai (pv 3) (pa1 (pcD KA hr T.NF ay (pa1 (pv 2)))))))
   (aa (aK (pcD Lo hr T.N4 ay (pa1 (pv 3))))
   (ah (aK (aM (pv 2) T.ar T.dS cF hr T.gO ay (pa1 (aB T.eD))))))))
   (ah (aD (pv 3))))))),?_⟩
 refine eO (fun Q q=>⟨_,rfl,q⟩) hx fun r H1 hr1 kp1 hR1=>?_
 refine⟨_,rfl,?_⟩;refine bJ rfl hR1 et fun H2 kp2 hR2=>?_
 rw[eW]at hR2;refine⟨fun mm Y H'=>∃(t:B)(n:Mat)(y:Addr),Y=[some (.ref p),some (.str x),some (.ref r),some (.ref y)]/\af [] H H'/\RdR a H' r t/\Sg35.skip t=t/\dY K H' y n/\Small n/\Sg35.turned m b=Sg35.turned n t/\mm=t.length,
  ⟨_,Sg35.skip b,m,p,rfl,kp1.drop kp2 hr1,hR2,bO b,kp2.sqT (kp1.sqT hm),hs,?_,rfl⟩,?_⟩
 .rw[eK,eK m (Sg35.skip b),bO]
 rintro mm Y H3 ⟨t,n,y,rfl,K3,hR3,hsk,hmt,hsn,htu,rfl⟩;refine mP rfl hR3 ⟨_,rfl,?_⟩;by_cases he:t=[]
 .rw[decide_eq_true he];refine aT ⟨_,rfl,k2 n y H3 ?_ K3 hmt hsn⟩;rw[htu,eK,if_pos (by rw[he];rfl)]
 .rw[decide_eq_false he];have hst:Sg35.turned m b=(bB t).bind fun x=>if (n.times x.1).fits=true then Sg35.turned (n.times x.1) x.2 else none:=by
   rw[htu,eK,if_neg (by rw[hsk];exact he),hsk]
  refine a9 ⟨fun Y' H'=>∃(t':B)(n:Mat)(y:Addr),Y'=[some (.ref p),some (.str x),some (.ref r),some (.ref y)]/\af [] H H'/\RdR a H' r t'/\Sg35.skip t'=t'/\dY K H' y n/\Small n/\Sg35.turned m b=Sg35.turned n t'/\t'.length<t.length,
   fun Y' H' ⟨t',n,y,e1,e2,e3,e4,e5,e6,e7,e8⟩=>⟨_,e8,t',n,y,e1,e2,e3,e4,e5,e6,e7,rfl⟩,?_⟩
  refine⟨_,rfl,_,rfl,r,t,rfl,hR3,fun hn=>k1 (by rw[hst,hn];rfl),fun tm t1 p1 htm H4 kp4 hR4 MO=>?_⟩;rw[htm]at hst;dsimp only[bind_some]at hst;have ht1:=Sg35.ia htm;have K4:af [] H H4:=K3.drop kp4 (by
   cases q:H r with
   |none=>rfl
   |some o=>rw[hr1]at q;cases q)
  refine⟨y,p1,n,tm,rfl,kp4.sqT hmt,MO,hsn,fun y2 H5 kp5 V3=>?_⟩;refine⟨_,rfl,y2,_,rfl,V3,fun hf=>k1 (by rw[hst,if_neg (by rw[hf];exact Bool.false_ne_true)]),fun hf H6 kp6=>?_⟩;rw[if_pos hf]at hst;refine bJ rfl ((hR4.eC kp5).eC kp6) et fun H7 kp7 hR7=>?_
  rw[eW]at hR7;have hlk:=aW t1;refine⟨Sg35.skip t1,n.times tm,y2,rfl,(K4.trans (kp5.trans kp6)).drop kp7 hr1,hR7,bO t1,kp7.sqT (kp6.sqT V3),Ca hf,?_,by omega⟩;rw[hst,eK,eK _ (Sg35.skip t1),bO]
theorem Ss:T.J8:=by
 refine T.BM.bz Rf fun H Q E hr h=>?_
 obtain⟨x,dx,u,v,rfl,hx,k⟩:=h;refine⟨_,(aa (aX (pv 0) (pv 1))
   (ah (aX (pv 0) (pv 2)))),?_⟩
 dsimp only[bq];refine⟨_,rfl,_,rfl,x,a.ei,dx,_,rfl,hx,T.gN,T.fQ,lt0,_,rfl,_,rfl,x,a.ei,dx,_,rfl,ae,T.gN,T.ie,lt1,?_⟩;show Q _ (upd (upd H x _) x _);rw[cf];have e:bw "rule" v (bw "fill" u [])=(stF u v:List (Str×V)):=rfl;rw[e];exact k _ (af.set (by simp) (by rw[hx];exact trivial)) ae
theorem SH:T.Qc:=by
 refine T.BR.bz Rk fun H Q E hr h=>?_
 obtain⟨x,dx,u,v,z,rfl,hx,k⟩:=h;refine⟨_,(aa (aX (pv 0) (pv 1))
   (aa (aX (pv 0) (pv 2))
   (ah (aX (pv 0) (pv 3))))),?_⟩
 dsimp only[bq];refine⟨_,rfl,_,rfl,x,a.ck,dx,_,rfl,hx,T.eP,T.mO,lt0,_,rfl,_,rfl,x,a.ck,dx,_,rfl,ae,T.eP,T.mM,lt1,_,rfl,_,rfl,x,a.ck,dx,_,rfl,ae,T.eP,T.gX,lt2,?_⟩;show Q _ (upd (upd (upd H x _) x _) x _);rw[cf,cf];have e:bw "r" z (bw "cy" v (bw "cx" u []))=([("cx",u),("cy",v),("r",z)]:List (Str×V)):=by
  rw[dP,bD (by decide +kernel),dP,bD (by decide +kernel),bD (by decide +kernel),dP]
 rw[e];exact k _ (af.set (by simp) (by rw[hx];exact trivial)) ae
theorem S1:T.DP:=by
 refine T.BX.bz Rv fun H Q E hr h=>?_
 obtain⟨x,dx,u,rfl,hx,k⟩:=h;refine⟨_,(ah (aX (pv 0) (pv 1))),?_⟩;dsimp only[bq];refine⟨_,rfl,_,rfl,x,a.dD,dx,_,rfl,hx,T.sA,T.iD,lt0,?_⟩;show Q _ (upd H x _);have e:bw "lines" u []=([("lines",u)]:List (Str×V)):=by
  rw[dP]
 rw[e];exact k _ (af.set (by simp) (by rw[hx];exact trivial)) ae
theorem Sr:T.P2:=by
 refine T.BL.bz Rc fun H Q E hr h=>?_
 obtain⟨x,dx,u,v,z,rfl,hx,k⟩:=h;refine⟨_,(aa (aX (pv 0) (pv 1))
   (aa (aX (pv 0) (pv 2))
   (ah (aX (pv 0) (pv 3))))),?_⟩
 dsimp only[bq];refine⟨_,rfl,_,rfl,x,a.fm,dx,_,rfl,hx,T.dC,T.dB,lt0,_,rfl,_,rfl,x,a.fm,dx,_,rfl,ae,T.dC,T.gc,lt1,_,rfl,_,rfl,x,a.fm,dx,_,rfl,ae,T.dC,T.eZ,lt2,?_⟩;show Q _ (upd (upd (upd H x _) x _) x _);rw[cf,cf];have e:bw "style" z (bw "matrix" v (bw "figure" u []))=(shF u v z:List (Str×V)):=rfl;rw[e];exact k _ (af.set (by simp) (by rw[hx];exact trivial)) ae
theorem R6:T.PH:=by
 refine T.BJ.bz Q5 fun H Q E hr h=>?_
 obtain⟨x,dx,u,v,z,rfl,hx,k⟩:=h;refine⟨_,(aa (aX (pv 0) (pv 1))
   (aa (aX (pv 0) (pv 2))
   (ah (aX (pv 0) (pv 3))))),?_⟩
 dsimp only[bq];refine⟨_,rfl,_,rfl,x,a.fk,dx,_,rfl,hx,T.dW,T.dR,lt0,_,rfl,_,rfl,x,a.fk,dx,_,rfl,ae,T.dW,T.bI,lt1,_,rfl,_,rfl,x,a.fk,dx,_,rfl,ae,T.dW,T.ic,lt2,?_⟩;show Q _ (upd (upd (upd H x _) x _) x _);rw[cf,cf];have e:bw "closed" z (bw "attributes" v (bw "name" u []))=(tgF u v z:List (Str×V)):=rfl;rw[e];exact k _ (af.set (by simp) (by rw[hx];exact trivial)) ae
theorem SD:T.Kb:=by
 refine T.BN.bz Ri fun H Q E hr h=>?_
 obtain⟨x,dx,u,v,z,rfl,hx,k⟩:=h;refine⟨_,(aa (aX (pv 0) (pv 1))
   (aa (aX (pv 0) (pv 2))
   (ah (aX (pv 0) (pv 3))))),?_⟩
 dsimp only[bq];refine⟨_,rfl,_,rfl,x,a.cj,dx,_,rfl,hx,T.fO,T.gJ,lt0,_,rfl,_,rfl,x,a.cj,dx,_,rfl,ae,T.fO,T.iE,lt1,_,rfl,_,rfl,x,a.cj,dx,_,rfl,ae,T.fO,T.jw,lt2,?_⟩;show Q _ (upd (upd (upd H x _) x _) x _);rw[cf,cf];have e:bw "style" z (bw "matrix" v (bw "name" u []))=(hoF u v z:List (Str×V)):=rfl;rw[e];exact k _ (af.set (by simp) (by rw[hx];exact trivial)) ae
theorem Fv:∀c<256,(match hex c with|some v=>decide (Txt.find "0123456789abcdefABCDEF" (sg [lo1 c])=(v:Int))|none=>true)=true:=by decide +kernel
theorem yQ{c v:Nat}(h:hex c=some v):c<128/\Txt.find "0123456789abcdefABCDEF" (sg [lo1 c])=(v:Int):=by
 have hc:c<128:=by
  unfold hex at h;split at h
  .rename_i hd;have:=fN.mp hd;lia
  .split at h
   .lia
   .split at h
    .lia
    .cases h
 have:=Fv c (by lia);rw[h]at this;exact⟨hc,of_decide_eq_true this⟩
theorem rq(c:Nat)(r:List Nat):(c::r).mapM hex=(hex c).bind fun v=>(r.mapM hex).map fun l=>v::l:=by
 rw[List.mapM_cons];cases hex c with
 |none=>rfl
 |some v=>cases r.mapM hex<;>rfl
theorem rp:∀{b l:List Nat},b.mapM hex=some l->l.length=b.length/\∀(i:Nat)(c:Nat),b[i]?=some c->∃v,hex c=some v/\l[i]?=some v
 |[],l,h=>by
  have:some []=some l:=h;cases this;exact⟨rfl,fun i c e=>by simp at e⟩
 |c::r,l,h=>by
  rw[rq]at h;cases hc:hex c with
  |none=>rw[hc]at h;cases h
  |some v=>
   rw[hc]at h;dsimp only[bind_some]at h;cases hr:r.mapM hex with
   |none=>rw[hr]at h;cases h
   |some l2=>
    rw[hr]at h;cases h;obtain⟨h1,h2⟩:=rp hr;refine⟨by simp[h1],fun i d e=>?_⟩;cases i with
    |zero=>simp at e;subst e;exact⟨v,hc,rfl⟩
    |succ i=>obtain⟨v2,e1,e2⟩:=h2 i d (by simpa using e);exact⟨v2,e1,by simpa using e2⟩
theorem yA:∀{b:List Nat},(∀c∈b,yM c=true)->∃l,b.mapM hex=some l
 |[],_=>⟨[],rfl⟩
 |c::r,h=>by
  obtain⟨l,hl⟩:=yA (b:=r) fun d hd=>h d (mem_cons_of_mem _ hd)
  have hc:=h c (mem_cons_self ..);unfold yM at hc;obtain⟨v,hv⟩:=Option.isSome_iff_exists.mp hc;exact⟨v::l,by rw[rq,hv,hl];rfl⟩
theorem Iw{b:List Nat}{c:Nat}(hc:c∈b)(h:yM c=false):b.mapM hex=none:=by
 cases hm:b.mapM hex with
 |none=>rfl
 |some l=>
  obtain⟨i,hi⟩:=mem_iff_getElem?.mp hc;obtain⟨v,hv,_⟩:=(rp hm).2 i c hi;unfold yM at h;rw[hv]at h;cases h
theorem Sl:T.PX:=by
 refine T.ND.fn.bz vE fun H Q E hr h=>?_
 obtain⟨x,b,n,rfl,rfl,hn,k⟩:=h;unfold hexOf at hn;by_cases h6:b.length=6
 case neg=>rw[if_neg h6]at hn;cases hn
 rw[if_pos h6]at hn;obtain⟨l,hl,hl2⟩:=map_eq_some_iff.mp hn;obtain⟨hlen,Wc⟩:=rp hl;have X4:Txt.lower (sg b)=sg (b.map lo1):=by
  rw[lower_ascii (x:=sg b) (by
   intro c hc;rw[show(sg b).cps.toList=b from cw]at hc;obtain⟨i,hi⟩:=mem_iff_getElem?.mp hc;obtain⟨v,hv,_⟩:=Wc i c hi
   exact(yQ hv).1)]
  apply ox
  show(Array.map lo1 (sg b).cps).toList=tl (sg (b.map lo1));rw[cw,Array.toList_map,show(sg b).cps.toList=b from cw]
 refine⟨_,(aa (aw 1 vE.nd ag)
   (aa (fH (RS (i7 F.plainAttrs_str F.slot_str_lower F.type_str_lower Io (pv 0))) (bG 2 vE.nd) (ah (aw 1 vE.nd (ao aQ (ao aH ag (pv 1)) (iA F.plainAttrs_str F.slot_str_find F.type_str_find Mt (aB T.fU) (pa1 (pv 2)))))))
   (ah (aD (pv 1))))),?_⟩
 dsimp only[bq];have hs:(sg (b.map lo1)).cps.size=6:=by
  have:=bT (l:=b.map lo1);rw[length_map,h6]at this;exact this
 refine⟨_,rfl,rfl,sg b,rfl,rfl,(by rw[bT];lia),Txt.lower (sg b),rfl,?_⟩;rw[X4];refine⟨fun i m Y H'=>∃(col:Int)(dg:Option V),Y=[some (.str (sg b)),some (.int col),dg]/\H'=H/\i<=6/\col=((((l.take i).foldl (fun n x=>16*n+x) 0:Nat)):Int)/\m=6-i,⟨_,0,none,rfl,rfl,by lia,rfl,rfl⟩,?_⟩;rintro i m Y H' ⟨col,dg,rfl,rfl,hi,Uo,rfl⟩;by_cases hlt:i<6
 .refine .inr ⟨by show i<(sg (b.map lo1)).cps.size;lia,fun Y' H2=>∃(col:Int)(dg:Option V),Y'=[some (.str (sg b)),some (.int col),dg]/\H2=H'/\col=((((l.take (i+1)).foldl (fun n x=>16*n+x) 0:Nat)):Int),
   fun Y' H2 ⟨col,dg,e1,e2,e3⟩=>⟨6-(i+1),by lia,col,dg,e1,e2,by lia,e3,rfl⟩,?_⟩
  rintro y H2 ⟨rfl,c,hc,rfl⟩;have hc':(b.map lo1)[i]?=some c:=by
   have:(sg (b.map lo1)).cps.toList[i]?=some c:=by rw[Array.getElem?_toList];exact hc
   rw[show(sg (b.map lo1)).cps.toList=b.map lo1 from cw]at this;exact this
  rw[List.getElem?_map]at hc';obtain⟨d,hd,rfl⟩:=map_eq_some_iff.mp hc';obtain⟨v,hv,hv2⟩:=Wc i d hd;refine⟨_,rfl,_,_,rfl,rfl,.inl (by decide),rfl,_,rfl,_,_,rfl,rfl,_,_,rfl,rfl,_,_,rfl,rfl,?_⟩;rw[take_succ,hv2,List.foldl_append,Uo];have e:Txt.find "0123456789abcdefABCDEF" ⟨#[lo1 d]⟩=(v:Int):=(yQ hv).2;rw[e];show(16:Int)*_+(v:Int)=_;simp only[Option.toList_some,List.foldl_cons,List.foldl_nil]
  lia
 .have:i=6:=by lia
  subst this;refine .inl ⟨by show(sg (b.map lo1)).cps.size<=6;lia,_,rfl,?_⟩;rw[take_of_length_le (by lia),hl2]at Uo;rw[Uo];exact k
theorem oj:∀{u l:List Nat},Plain u->(l.map Sg35.tr=u↔l=u)
 |[],l,_=>by simp
 |d::u,[],_=>by simp
 |d::u,c::l,h=>by
  obtain⟨h1,h2,h3,h4⟩:=h d (mem_cons_self ..);rw[map_cons,List.cons.injEq,List.cons.injEq,lJ h1 h2 h3 h4,oj (u:=u) fun e he=>h e (mem_cons_of_mem _ he)]
theorem Bf{u:List Nat}(h:(u.all fun d=>decide (33<=d)&&(decide (d<=126)&&(decide (d≠37)&&decide (d≠63))))=true):Plain u:=by
 simp only[Bool.and_eq_true,all_eq_true,decide_eq_true_eq]at h;exact fun d hd=>h d hd
theorem QM{x:Str}{b:B}(hx:TxB x b)(s:String)(hs:Plain (ascii s)):decide (V.str x=V.str (s:Str))=decide (b=ascii s):=by
 rw[Bool.eq_iff_iff,decide_eq_true_eq,decide_eq_true_eq,hx.1,lit];constructor
 .intro z;injection z with z;exact(oj hs).mp (jT z)
 .intro z;rw[(oj hs).mpr z]
theorem IE:("#":Str)=sg [35]:=by decide +kernel
theorem MQ{c:Nat}(h:yM c=true):Sg35.tr c=c:=by
 have:48<=c/\c<=102/\c≠63:=by
  unfold yM hex at h;split at h
  .rename_i hd;have:=fN.mp hd;lia
  .split at h
   .lia
   .split at h
    .lia
    .cases h
 exact(lJ (c:=c) (d:=c) (by lia) (by lia) (by lia) (by lia)).mpr rfl
theorem MA{d:List Nat}(hd:∀c∈d,yM c=true):d.map Sg35.tr=d:=by
 have:∀c∈d,Sg35.tr c=id c:=fun c hc=>MQ (hd c hc)
 rw[map_congr_left this,map_id]
theorem Fw(d:B):fillOf (35::d)=(hexOf d).map some:=by
 unfold fillOf hexOf;rw[if_neg (by
  have e:ascii "none"=[110,111,110,101]:=by decide +kernel
  rw[e];intro z;injection z with z;lia)]
 show(if d.length=6 then Option.map (fun l=>some (List.foldl (fun n x=>16*n+x) 0 l)) (List.mapM hex d)else none)=_;by_cases h:d.length=6
 .rw[if_pos h,if_pos h];cases d.mapM hex<;>rfl
 .rw[if_neg h,if_neg h];rfl
theorem M1{b:B}(h0:b≠ascii "none")(h:∀d,b≠35::d):fillOf b=none:=by
 unfold fillOf;rw[if_neg h0];split
 .exact absurd rfl (h _)
 .rfl
theorem m6{Pz:Nat->Bool}:∀{d:B},d.dropWhile Pz=[]->(∀c∈d,Pz c=true)/\d.takeWhile Pz=d
 |[],_=>⟨by simp,rfl⟩
 |c::r,h=>by
  rw[dropWhile_cons]at h;cases hc:Pz c with
  |false=>rw[hc]at h;cases h
  |true=>
   rw[hc]at h;obtain⟨h1,h2⟩:=m6 (d:=r) h;refine⟨fun e he=>?_,by rw[takeWhile_cons,hc,if_pos rfl,h2]⟩;rcases mem_cons.mp he with rfl|he
   .exact hc
   .exact h1 e he
theorem ly{Pz:Nat->Bool}:∀{d:B},d.dropWhile Pz≠[]->∃c∈d,Pz c=false
 |[],h=>absurd rfl h
 |c::r,h=>by
  rw[dropWhile_cons]at h;cases hc:Pz c with
  |false=>exact⟨c,mem_cons_self ..,hc⟩
  |true=>
   rw[hc]at h;obtain⟨e,he,h2⟩:=ly (d:=r) h;exact⟨e,mem_cons_of_mem _ he,h2⟩
theorem Sk(fC:T.sM)(ee:T.pj)(cF:T.lD)(jB:T.Am)(Kz:T.PX):T.PV:=by
 refine T.NC.fn.bz AX fun H Q E hr h=>?_
 obtain⟨x,b,rfl,hx,k1,k2⟩:=h;refine⟨_,(aa (aR (aF dr (pv 0) aN) (ah (aD (aB T.sf))) aI)
   (aa (aw 1 AX.nd (bW T.gC fC hr T.fL T.pf ay (pa1 (pv 0))))
   (aa (aK (aM (pv 1) T.ar T.gd ee hr T.lA ay (pa1 aN)))
   (aa (aw 2 AX.nd (aM (pv 1) T.ar T.dS cF hr T.gO ay (pa1 (aB T.fU))))
   (aa (aK (eA (pv 1) T.ar T.ka jB hr T.uJ ay))
   (aa (aR (aF jv (aL fj T.cC (pa1 (pv 2))) ag) (ah (bo T.aJ (by rfl))) aI)
   (ah (aD (pcD Kz hr T.ND ay (pa1 (pv 2))))))))))),?_⟩
 have pn:Plain (ascii "none"):=Bf (by decide +kernel);refine⟨_,rfl,rfl,decide (b=ascii "none"),congrArg V.bl (QM hx "none" pn),?_⟩;by_cases h0:b=ascii "none"
 .refine dT h0 (k2 none H ?_ af.refl);unfold fillOf;rw[if_pos h0]
 refine dF h0 ?_;dsimp only[Gn];refine eO (fun Q q=>⟨_,rfl,q⟩) hx fun r H1 hr1 kp1 hR1=>?_
 refine je rfl hR1 IE (by decide) (fun d e1 H2 kp2 hR2=>?_) (fun hno=>k1 (M1 h0 fun d hd=>hno d hd));subst e1;rw[show([35]++d:B)=35::d from rfl,Fw]at k1 k2;refine bJ rfl hR2 QL fun H3 kp3 hR3=>?_
 refine jd rfl hR3 (fun hd=>?_) (fun hd=>k1 ?_)
 .obtain⟨kW,htw⟩:=m6 hd;rw[htw,MA kW];have hdl:d.length<=65600:=hR2.len;refine⟨_,rfl,_,rfl,(by rw[bT,sizeLine_eq];lia),rfl,!decide (d.length=6),congrArg (fun z=>V.bl (!z)) ?_,?_⟩
  .rw[Bool.eq_iff_iff,decide_eq_true_eq,decide_eq_true_eq,bT];constructor
   .intro z;injection z with z;lia
   .intro z;rw[z];rfl
  by_cases h6:d.length=6
  .rw[decide_eq_true h6];obtain⟨l,hl⟩:=yA kW;have hh:hexOf d=some (l.foldl (fun n x=>16*n+x) 0):=by unfold hexOf;rw[if_pos h6,hl];rfl
   refine aT ⟨_,rfl,_,d,_,rfl,rfl,hh,?_⟩;exact k2 (some _) H3 (by rw[hh];rfl) ((kp1.drop kp2 hr1).drop kp3 hr1)
  .rw[decide_eq_false h6];refine a9 (k1 ?_ _);unfold hexOf;rw[if_neg h6];rfl
 .obtain⟨c,hc,hcb⟩:=ly hd;unfold hexOf;rw[Iw hc hcb];split<;>rfl
theorem Sj:T.PU:=by
 refine T.NB.fn.bz Ra fun H Q E hr h=>?_
 obtain⟨x,b,rfl,hx,k1,k2⟩:=h;refine⟨_,(aa (aR (aF mH (pv 0) (bH (ai (aB T.si) (pa1 (aB T.su))))) (ah (bo T.aJ (by rfl))) aI)
   (ah (aD (pv 0)))),?_⟩
 dsimp only[bq];refine⟨_,rfl,sl2,fun t ht=>⟨t,_,rfl,.inr (SqT.of ae),rfl,rfl,!(decide (b=ascii "nonzero")||decide (b=ascii "evenodd")),?_,?_⟩⟩
 .have p1:Plain (ascii "nonzero"):=Bf (by decide +kernel);have p2:Plain (ascii "evenodd"):=Bf (by decide +kernel);have e1:=QM hx "nonzero" p1;have e2:=QM hx "evenodd" p2;show V.bl (!inV (V.str x) [V.str "nonzero",V.str "evenodd"])=_;congr 2
  rw[<-e1,<-e2];unfold inV;simp only[any_cons,any_nil,Bool.or_false,eqV];congr 1<;>(rw[Bool.eq_iff_iff,beq_iff_eq,decide_eq_true_eq,V.str.injEq];exact eq_comm)
 unfold qA at k1 k2;by_cases h1:b=ascii "nonzero"
 .rw[decide_eq_true h1,if_pos h1]at *;refine aT ⟨_,rfl,?_⟩;have:=k2 false (upd H t (.tup [.str "nonzero",.str "evenodd"])) rfl (af.new ht);have ex:x=rlV false:=by rw[hx.1,h1];exact(by decide +kernel:sg ((ascii "nonzero").map Sg35.tr)=rlV false)
  rw[ex];exact this
 rw[decide_eq_false h1];rw[if_neg h1]at k1 k2;by_cases h2:b=ascii "evenodd"
 .rw[decide_eq_true h2];rw[if_pos h2]at k2;refine aT ⟨_,rfl,?_⟩;have:=k2 true (upd H t (.tup [.str "nonzero",.str "evenodd"])) rfl (af.new ht);have ex:x=rlV true:=by rw[hx.1,h2];exact(by decide +kernel:sg ((ascii "evenodd").map Sg35.tr)=rlV true)
  rw[ex];exact this
 .rw[decide_eq_false h2];rw[if_neg h2]at k1;exact a9 (k1 rfl _)
theorem ik(as:List (B×B))(s:String):dJ (atK as) (Sum.inr (s:Str))=(attr as s).map fun v=>V.str (sg (v.map Sg35.tr)):=by
 unfold attr dJ atK;induction as with
 |nil=>rfl
 |cons p r ih=>
  rw[map_cons,List.find?_cons,List.lookup];have e:decide ((Sum.inr (sg p.1):Key)=Sum.inr (s:Str))=(ascii s==p.1):=by
   rw[Bool.eq_iff_iff,decide_eq_true_eq,beq_iff_eq,lit];constructor
   .intro z;injection z with z;exact(jT z).symm
   .intro z;rw[z]
  dsimp only;rw[e];cases hh:ascii s==p.1 with
  |true=>rfl
  |false=>exact ih
theorem Ag{H:Hp}{d:Addr}{as:List (B×B)}(h:gQ H d as){s:String}{v:B}(hv:attr as s=some v):TxB (sg (v.map Sg35.tr)) v:=by
 have:∃k,(k,v)∈as:=by
  unfold attr at hv;clear h;induction as with
  |nil=>cases hv
  |cons p r ih=>
   rw[List.lookup]at hv;split at hv
   .cases hv;exact⟨p.1,by simp⟩
   .obtain⟨k,hk⟩:=ih hv;exact⟨k,mem_cons_of_mem _ hk⟩
 obtain⟨k,hk⟩:=this;obtain⟨h1,h2⟩:=h.2 _ hk;exact⟨rfl,h1,h2⟩
theorem pZ{u v:V}:(stF u v).lookup ("fill":Str)=some u:=rfl
theorem xH{u v:V}:(stF u v).lookup ("rule":Str)=some v:=rfl
theorem R1(Ky:T.PV)(Kx:T.PU)(uR:T.J8):T.J3:=by
 refine T.Gd.fn.bz AU fun H Q E hr h=>?_
 obtain⟨st,d,f,o,as,rfl,⟨dx,hst⟩,hat,k1,k2⟩:=h;refine⟨_,(aa (aw 2 AU.nd (mE (vS (Bj (gZ hr) aN (pv 1))) (pcD Ky hr T.NC ay (pa1 (pM (gZ hr) (pv 1) aN (fun _ _=>rfl)))) (ax (pv 0))))
   (aa (aw 3 AU.nd (mE (vS (Bj (gZ hr) aN (pv 1))) (pcD Kx hr T.NB ay (pa1 (pM (gZ hr) (pv 1) aN (fun _ _=>rfl)))) (ax (pv 0))))
   (ah (aD (bW T.yt uR hr T.um T.DH ay (ai (pv 2) (pa1 (pv 3)))))))),?_⟩
 dsimp only[bq];have fin:∀f' o' H',gj f o as=some (f',o')->af [] H H'->Gk (oM a.ei (ib a) [] E (cb (cU 2) (cb (cU 3) fE))) {nx:=fun _ H'=>Q .non H',rt:=Q} [some (.ref st),some (.ref d),some (.int (flV f')),some (.str (rlV o'))] H':=by
  intro f' o' H' hs kp;refine⟨_,rfl,_,rfl,fun y dy hy hdy hne=>⟨y,dy,_,_,rfl,ae,fun H2 kp2 h2=>⟨rfl,?_⟩⟩⟩;have kk:=af.made hy hdy kp2;exact k2 f' o' y H2 hs (kp.trans kk) (kp.bP hy) ⟨dy,h2⟩
 have rule:∀f' H',af [] H H'->fi f as=some f'->
   D9 (Ea (tIf (tB (U3 (tC (.str "fill-rule")) (cU 1))) (xy (mq a) [] E (cb (Oa (cU 1) (tC (.str "fill-rule"))) fE)) (LH K (cU 0) "rule")) (g9 3)) (Gk (oM a.ei (ib a) [] E (cb (cU 2) (cb (cU 3) fE)))) {nx:=fun _ H'=>Q .non H',rt:=Q} [some (.ref st),some (.ref d),some (.int (flV f')),none] H':=by
  intro f' H' kp hf;have hd':=kp.at hat.1;refine⟨_,rfl,d,_,rfl,fY.k (k:=Sum.inr "fill-rule") hd',_,rfl,?_⟩;rw[ik];cases hv:attr as "fill-rule" with
  |none=>
   have hr:fF o as=some o:=by unfold fF;rw[hv]
   refine aT ⟨_,rfl,st,a.ei,dx,_,_,rfl,kp.at hst,T.gN,T.ie,xH,?_⟩;exact fin f' o H' (pW hf hr) kp
  |some v=>
   have hr:fF o as=qA v:=by unfold fF;rw[hv]
   refine a9 ⟨_,rfl,d,_,rfl,by rw[show(some (V.str (sg (v.map Sg35.tr))))=dJ (atK as) (Sum.inr ("fill-rule":Str)) by rw[ik,hv];rfl];exact fY.k (k:=Sum.inr "fill-rule") hd',_,v,rfl,Ag hat hv,fun hn=>k1 (xD (hr.trans hn)),fun o' H2 ho kp2=>?_⟩;exact fin f' o' H2 (pW hf (hr.trans ho)) (kp.trans kp2)
 have hd':=hat.1;refine⟨_,rfl,d,_,rfl,fY.k (k:=Sum.inr "fill") hd',_,rfl,?_⟩;rw[ik];cases hv:attr as "fill" with
 |none=>
  refine aT ⟨_,rfl,st,a.ei,dx,_,_,rfl,hst,T.gN,T.fQ,pZ,?_⟩;exact rule f H af.refl (by unfold fi;rw[hv])
 |some v=>
  refine a9 ⟨_,rfl,d,_,rfl,by rw[show(some (V.str (sg (v.map Sg35.tr))))=dJ (atK as) (Sum.inr ("fill":Str)) by rw[ik,hv];rfl];exact fY.k (k:=Sum.inr "fill") hd',_,v,rfl,Ag hat hv,fun hn=>k1 ?_,fun f' H2 hf kp2=>?_⟩
  .exact xE (by unfold fi;rw[hv];exact hn)
  .exact rule f' H2 kp2 (by unfold fi;rw[hv];exact hf)
theorem ID:("<!--":Str)=sg [60,33,45,45]:=by decide +kernel
theorem yB:("-->":Str)=sg [45,45,62]:=by decide +kernel
theorem Tz:("=":Str)=sg [61]:=by decide +kernel
theorem uo:("/":Str)=sg [47]:=by decide +kernel
theorem rB:(">":Str)=sg [62]:=by decide +kernel
theorem rb(b:B):bM (Sg35.skip b)=bM b:=by
 by_cases h:∃r,Sg35.skip b=60::33::45::45::r
 .obtain⟨r,e⟩:=h;rw[gK e,gK (b:=Sg35.skip b) (by rw[bO];exact e)]
 .have h':∀r,Sg35.skip b≠60::33::45::45::r:=fun r e=>h ⟨r,e⟩
  rw[iF h',iF (b:=Sg35.skip b) (by rw[bO];exact h'),bO]
theorem Tn(cF:T.lD)(gn:T.uN)(uX:T.Ki):T.Kj:=by
 refine T.CM.fn.bz RF fun H Q E hr h=>?_
 obtain⟨r,q,rfl,hR,k1,k2⟩:=h;refine⟨_,(aa (aK (aM (pv 0) T.ar T.dS cF hr T.gO ay (pa1 (aB T.eD))))
   (ah (eu (cV (aM (pv 0) T.ar T.gL gn hr T.ni ay (pa1 aN))) (aa (aK (aM (pv 0) T.ar T.og uX hr T.DK ay (pa1 aN)))
   (ah (aK (aM (pv 0) T.ar T.dS cF hr T.gO ay (pa1 (aB T.eD))))))))),?_⟩
 refine bJ rfl hR et fun H1 kp1 hR1=>?_
 rw[eW]at hR1;refine⟨fun m Y H'=>∃t:B,Y=[some (.ref r)]/\af [r] H H'/\RdR a H' r t/\Sg35.skip t=t/\bM q=bM t/\m=t.length,⟨_,Sg35.skip q,rfl,kp1,hR1,bO q,(rb q).symm,rfl⟩,?_⟩;rintro m Y H2 ⟨t,rfl,K2,hR2,hsk,hm,rfl⟩;refine lX rfl hR2 ID (by decide) (fun t1 e1 H3 kp3 hR3=>⟨_,rfl,a9 ?_⟩) (fun hno=>⟨_,rfl,aT ?_⟩)
 .subst e1;have hm1:=gK (b:=[60,33,45,45]++t1) (r:=t1) (by rw[hsk];rfl);refine⟨fun Y' H'=>∃t':B,Y'=[some (.ref r)]/\af [r] H H'/\RdR a H' r t'/\Sg35.skip t'=t'/\bM q=bM t'/\t'.length<([60,33,45,45]++t1:B).length,fun Y' H' ⟨t',e1,e2,e3,e4,e5,e6⟩=>⟨_,e6,t',e1,e2,e3,e4,e5,rfl⟩,?_⟩;refine Dr rfl (fun _ q=>q) hR3 yB (by decide) (fun hn=>k1 ?_) (fun k hk hn H4 kp4 hR4=>?_)
  .rw[hm,hm1,Sg35.mK hn];rfl
  .rw[show([45,45,62]:List Nat).length=3 from rfl]at *;refine bJ rfl hR4 et fun H5 kp5 hR5=>?_
   rw[eW]at hR5;refine⟨_,rfl,K2.trans (kp3.trans (kp4.trans kp5)),hR5,bO _,?_,?_⟩
   .rw[hm,hm1,Sg35.mJ hk hn,rb];rfl
   .have h1:=aW (t1.drop (k+3));rw[length_drop]at h1;simp only[length_append,length_cons,length_nil];omega
 .have h':∀r,Sg35.skip t≠60::33::45::45::r:=fun r e=>hno r (by rw[<-hsk,e];rfl)
  exact k2 t (by rw[hm,iF h',hsk]) H2 K2 hR2
theorem GA(l m:List Nat):sg l++sg m=sg (l++m):=by
 apply ox
 rw[nK,cw,cw,cw]
theorem D5{b:B}{c:Nat}(hb:Byt b)(hc:c∈b)(h:inName c=true):Sg35.tr c=c:=Sg35.CC c (hb c hc) h
theorem k9{Pz:Nat->Bool}{l:B}{c:Nat}(h:c∈l.takeWhile Pz):c∈l:=(List.takeWhile_prefix Pz).subset h
theorem Se(nE:T.DQ)(cF:T.lD):T.J7:=by
 refine T.Gg.fn.bz Q8 fun H Q E hr h=>?_
 obtain⟨r,q,rfl,hR,k1,k2⟩:=h;refine⟨_,(ah (aD (ao qS (aM (pv 0) T.ar T.lV nE hr T.Af ay (pa1 (aB T.sk))) (aM (pv 0) T.ar T.dS cF hr T.gO ay (pa1 (aB T.tS)))))),?_⟩;have hby:=hR.byt;refine lW rfl hR pQ (fun c t e hc H1 kp1 hR1=>?_) (fun hn=>k1 ?_)
 .subst e;refine bJ rfl hR1 F1 fun H2 kp2 hR2=>?_
  have hci:=Sg35.fM hc;have hn:Sg35.nameAt (c::t)=some ((c::t).takeWhile inName,(c::t).drop ((c::t).takeWhile inName).length):=by
   unfold Sg35.nameAt;dsimp only;rw[if_pos hc]
  have htw:(c::t).takeWhile inName=c::t.takeWhile inName:=by rw[takeWhile_cons,if_pos hci]
  have hm:(t.takeWhile inName).map Sg35.tr=t.takeWhile inName:=Sg35.yz (fun d hd=>hby d (mem_cons_of_mem _ (k9 hd))) fun d hd=>bF hd
  refine⟨_,_,rfl,rfl,?_,?_⟩
  .rw[bT,bT,length_map,sizeLine_eq];have h1:=len_takeWhile inName t;have h2:=hR1.len;simp only[length_cons,length_nil];omega
  .rw[GA,hm,D5 hby (mem_cons_self ..) hci];have kk:=k2 _ _ hn H2 (kp1.trans kp2);rw[htw]at kk;refine kk ?_;rw[length_cons,List.drop_succ_cons,Sg35.cA];exact hR2
 .cases q with
  |nil=>rfl
  |cons c t=>
   have hc:letter c=false:=hn;unfold Sg35.nameAt;dsimp only;rw[if_neg (by rw[hc];exact Bool.false_ne_true)]
theorem Bn{q:B}{c k:Nat}:(q.drop k).take [c].length=[c]↔q[k]?=some c:=by
 show(q.drop k).take 1=[c]↔_;cases hd:q.drop k with
 |nil=>
  have hl:q.length<=k:=List.drop_eq_nil_iff.mp hd;rw[List.getElem?_eq_none_iff.mpr hl];simp
 |cons d t=>
  have:q[k]?=some d:=by
   have:=congrArg (fun z:B=>z[0]?) hd;simpa [List.getElem?_drop] using this
  rw[this];simp
theorem Tx:("<":Str)=⟨#[60]⟩:=by decide +kernel
theorem MD:("&":Str)=⟨#[38]⟩:=by decide +kernel
theorem Tw:("\n":Str)=⟨#[10]⟩:=by decide +kernel
theorem Sw(nE:T.DQ)(uX:T.Ki):T.P6:=by
 refine T.NK.fn.bz A1 fun H Q E hr h=>?_
 obtain⟨r,q,rfl,hR,k1,k2⟩:=h;refine⟨_,(aa (aw 1 A1.nd (aM (pv 0) T.ar T.lV nE hr T.Af ay (pa1 aN)))
   (aa (aw 2 A1.nd (aM (pv 0) T.ar T.og uX hr T.DK ay (pa1 (pv 1))))
   (aa (aR (oQ (aF i8 aN (pv 2)) (oQ (aF i8 aN (pv 2)) (lO (aF i8 (aB T.sd) (pv 2))))).pt (ah (bo T.aJ (by rfl))) aI)
   (ah (aD (pv 2)))))),?_⟩
 have hby:=hR.byt;refine lW rfl hR F0 (fun c v e hc H1 kp1 hR1=>?_) (fun hn=>k1 ?_)
 .subst e;have hq:c=34\/c=39:=by
   unfold isQuote at hc;simpa using hc
  have hbv:Byt v:=fun d hd=>hby d (mem_cons_of_mem _ hd)
  have htr:Sg35.tr c=c:=by rcases hq with rfl|rfl<;>decide
  have hw:nF [c]=true:=by rcases hq with rfl|rfl<;>decide
  rw[htr];refine Dr rfl (fun _ q=>⟨_,rfl,q⟩) hR1 rfl hw (fun hn=>k1 (Sg35.uZ hq fun j hj=>hn j (Bn.mpr hj))) (fun k hk hn H2 kp2 hR2=>?_);have hk':=Bn.mp hk;have hn':∀j<k,v[j]?≠some c:=fun j hj z=>hn j hj (Bn.mpr z)
  have mT:∀d,d∈tl (sg ((v.take k).map Sg35.tr))↔∃e∈v.take k,Sg35.tr e=d:=fun d=>by
   rw[cw,mem_map]
  have bad:∀d,(d=60\/d=38\/d=10)->d∈tl (sg ((v.take k).map Sg35.tr))->bp a E:=fun d hd hm=>by
   obtain⟨e,he,hte⟩:=(mT d).mp hm;refine k1 (Sg35.xo hbv hq hk' hn' ⟨e,he,?_⟩);rintro⟨h1,h2,h3⟩;rw[hte]at h1 h2 h3;rcases hd with z|z|z
   .exact h1 z
   .exact h2 z
   .exact h3 z
  refine⟨_,rfl,60,_,congrArg V.str Tx,rfl,_,rfl,?_⟩;by_cases b1:60∈tl (sg ((v.take k).map Sg35.tr))
  .exact dT b1 (a9 (bad 60 (.inl rfl) b1 _))
  refine dF b1 ⟨_,rfl,38,_,congrArg V.str MD,rfl,_,rfl,?_⟩;by_cases b2:38∈tl (sg ((v.take k).map Sg35.tr))
  .exact dT b2 (a9 (bad 38 (.inr (.inl rfl)) b2 _))
  refine dF b2 ⟨_,rfl,10,_,congrArg V.str Tw,rfl,_,rfl,?_⟩;by_cases b3:10∈tl (sg ((v.take k).map Sg35.tr))
  .exact dT b3 (bad 10 (.inr (.inr rfl)) b3 _)
  refine dF b3 ⟨_,rfl,?_⟩;have hv:=Sg35.uY hbv hq hk' hn' fun e he=>⟨fun z=>b1 ((mT 60).mpr ⟨e,he,z⟩),fun z=>b2 ((mT 38).mpr ⟨e,he,z⟩),fun z=>b3 ((mT 10).mpr ⟨e,he,z⟩)⟩
  exact k2 _ _ hv H2 (kp1.trans kp2) hR2
 .cases q with
  |nil=>exact Sg35.lG fun q v z=>by injection z with _ z;cases z
  |cons c v=>
   have hc:isQuote c=false:=hn;unfold isQuote at hc;simp only[Bool.or_eq_false_iff,beq_eq_false_iff_ne]at hc;rw[Sg35.eV,if_neg];rintro(z|z)
   .exact hc.1 z
   .exact hc.2 z
def iN(done z:List (B×B)):Bool:=z.any fun p=>done.any fun b=>b.1==p.1
def comb(done:List (B×B))(X:Option (List (B×B)×B)):Option (List (B×B)×B):=X.bind fun z=>if iN done z.1=true then none else some (done++z.1,z.2)
theorem Jw(X:Option (List (B×B)×B)):comb [] X=X:=by
 unfold comb;cases X with
 |none=>rfl
 |some z=>
  have:iN [] z.1=false:=by
   unfold iN;rw[any_eq_false];intro p _;simp
  dsimp only[bind_some];rw[this];rfl
theorem FJ{done:List (B×B)}{n v:B}(hn:(done.any fun b=>b.1==n)=false)(X:Option (List (B×B)×B)):
  comb done (X.bind fun z=>if (z.1.any fun p=>p.1==n)=true then none else some ((n,v)::z.1,z.2))=comb (done++[(n,v)]) X:=by
 unfold comb;cases X with
 |none=>rfl
 |some z=>
  dsimp only[bind_some];have e1:iN (done++[(n,v)]) z.1=(iN done z.1||z.1.any fun p=>p.1==n):=by
   unfold iN;induction z.1 with
   |nil=>rfl
   |cons p r ih=>
    simp only[any_cons];rw[ih,List.any_append];simp only[any_cons,any_nil,Bool.or_false];have:(n==p.1)=(p.1==n):=by rw[Bool.eq_iff_iff,beq_iff_eq,beq_iff_eq];exact eq_comm
    rw[this];cases(done.any fun b=>b.1==p.1)<;>cases(p.1==n)<;>simp
  rw[e1];cases h:z.1.any fun p=>p.1==n with
  |true=>rw[if_pos rfl,Bool.or_true];rfl
  |false=>
   rw[if_neg Bool.false_ne_true,Bool.or_false];dsimp only[bind_some];have e2:iN done ((n,v)::z.1)=iN done z.1:=by
    unfold iN;rw[any_cons];dsimp only;rw[hn,Bool.false_or]
   rw[e2];split<;>simp
theorem zZ{done:List (B×B)}{n v:B}{r:List (B×B)}(hn:(done.any fun b=>b.1==n)=true):iN done ((n,v)::r)=true:=by
 unfold iN;rw[any_cons];dsimp only;rw[hn,Bool.true_or]
theorem Jx{done:List (B×B)}{n v:B}(hn:(done.any fun b=>b.1==n)=true)(X:Option (List (B×B)×B)):
  comb done (X.bind fun z=>if (z.1.any fun p=>p.1==n)=true then none else some ((n,v)::z.1,z.2))=none:=by
 unfold comb;cases X with
 |none=>rfl
 |some z=>
  dsimp only[bind_some];split
  .rfl
  .dsimp only[bind_some];rw[zZ hn];rfl
theorem JZ(done:List (B×B))(n:B):(dJ (atK done) (Sum.inr (sg n))).isSome=done.any fun b=>b.1==n:=by
 unfold dJ atK;induction done with
 |nil=>rfl
 |cons p r ih=>
  rw[map_cons,List.find?_cons,any_cons];have e:decide ((Sum.inr (sg p.1):Key)=Sum.inr (sg n))=(p.1==n):=by
   rw[Bool.eq_iff_iff,decide_eq_true_eq,beq_iff_eq];constructor
   .intro z;injection z with z;exact jT z
   .intro z;rw[z]
  dsimp only;rw[e];cases p.1==n with
  |true=>rfl
  |false=>rw[Bool.false_or];exact ih
theorem xn{b v t:B}(h:Sg35.valueAt b=some (v,t)):(∀c∈v,c∈b)/\v.length<=b.length:=by
 unfold Sg35.valueAt at h;split at h
 .rename_i q u;split at h
  .split at h
   .cases h;refine⟨fun c hc=>?_,?_⟩
    .exact mem_cons_of_mem _ (mem_cons_of_mem _ (k9 hc))
    .have:=len_takeWhile (Sg35.valueByte q) u;simp only[length_cons];omega
   .cases h
  .cases h
 .cases h
theorem Ei{t:B}(h:t.takeWhile blank=[]):Sg35.skip t=t:=by
 have:=takeWhile_append_dropWhile (p:=blank) (l:=t);rw[h]at this;exact this
theorem AR{t:B}(h:t.takeWhile blank≠[]):(Sg35.skip t).length≠t.length:=by
 have:=congrArg List.length (takeWhile_append_dropWhile (p:=blank) (l:=t));rw[length_append]at this;have hp:0<(t.takeWhile blank).length:=length_pos_iff.mpr h;unfold Sg35.skip;omega
theorem ui(q:B):(hd1 letter q=false->Sg35.nameAt q=none)/\(hd1 letter q=true->∃n t,Sg35.nameAt q=some (n,t)):=by
 cases q with
 |nil=>exact⟨fun _=>rfl,(nomatch ·)⟩
 |cons c r=>
  unfold Sg35.nameAt hd1;dsimp only;cases letter c with
  |true=>exact⟨(nomatch ·),fun _=>⟨_,_,rfl⟩⟩
  |false=>exact⟨fun _=>rfl,(nomatch ·)⟩
theorem Th(cF:T.lD)(lE:T.DR)(uQ:T.J7)(ee:T.pj)(KL:T.P6):T.QE:=by
 refine T.N9.fn.bz A6 fun H Q E hr h=>?_
 obtain⟨r,q,rfl,hR,k1,k2⟩:=h;refine⟨_,(aa (aw 1 A6.nd ye)
   (aa (eu (lP (aF jv (aM (pv 0) T.ar T.dS cF hr T.gO ay (pa1 (aB T.eD))) aN) (i4 (cV (aM (pv 0) T.ar T.ig lE hr T.ph ay (pa1 (aB T.sk)))))).pt (aa (aw 2 A6.nd (pcD uQ hr T.Gg ay (pa1 (pv 0))))
   (aa (aR (vS (Bj (gZ hr) (pv 2) (pv 1))) (ah (bo T.aJ (by rfl))) aI)
   (aa (aK (aM (pv 0) T.ar T.gd ee hr T.lA ay (pa1 aN)))
   (ah (Df (gZ hr) (pv 1) (pv 2) (pcD KL hr T.NK ay (pa1 (pv 0))) rfl))))))
   (ah (aD (pv 1))))),?_⟩
 intro d hd;have hrd:d≠r:=(hR.ne hd).symm;have hR0:RdR a (upd H d (.dK [])) r q:=hR.eC (af.new hd);refine⟨fun m Y H'=>∃(t:B)(done:List (B×B))(nm:Option V),Y=[some (.ref r),some (.ref d),nm]/\af [r] H H'/\RdR a H' r t/\gQ H' d done/\done.length+t.length<=65600/\attrs q=comb done (attrs t)/\m=t.length,
  ⟨_,q,[],none,rfl,af.new hd,hR0,⟨ae,by simp⟩,by have:=hR.len;simpa using this,(Jw _).symm,rfl⟩,?_⟩
 rintro m Y H1 ⟨t,done,nm,rfl,K1,hR1,hat,hsz,hq,rfl⟩;refine bJ rfl hR1 et fun H2 kp2 hR2=>?_
 rw[eW]at hR2;have K2:af [r] H H2:=K1.trans kp2;have tR:gQ H2 d done:=⟨kp2.one hat.1 hrd,hat.2⟩;have hls:=aW t;refine⟨rfl,!decide (t.takeWhile blank=[]),congrArg (fun z=>V.bl (!z)) ?_,?_⟩
 .rw[Bool.eq_iff_iff,decide_eq_true_eq,decide_eq_true_eq];rw[show("":Str)=sg [] by decide +kernel];constructor
  .intro z;injection z with z;exact List.map_eq_nil_iff.mp (jT z)
  .intro z;rw[z];rfl
 by_cases hb:t.takeWhile blank=[]
 .rw[decide_eq_true hb];have hst:=Ei hb;rw[hst]at hR2;refine aT (aT ⟨_,rfl,?_⟩);cases hna:Sg35.nameAt t with
  |none=>
   have e:attrs t=some ([],t):=by rw[Sg35.l7 (by rw[hst];exact hna),hst]
   refine k2 done t d ?_ hd H2 K2 hR2 tR;rw[hq,e];unfold comb iN;simp
  |some x=>
   have e:attrs t=none:=Sg35.sI (by rw[hst];exact hna) (by rw[hst]);obtain⟨n,u⟩:=x;obtain⟨c,r2,rfl,hc,_⟩:=Sg35.j6 hna;exact(k1 (by rw[hq,e];rfl)).2 d done c r2 hc hd H2 K2 hR2 tR
 rw[decide_eq_false hb];have hso:=AR hb;refine a9 ?_;refine wJ rfl hR2 pQ ⟨_,rfl,?_⟩;cases hh:hd1 letter (Sg35.skip t)with
 |false=>
  have e:attrs t=some ([],Sg35.skip t):=Sg35.l7 ((ui _).1 hh);refine aT ⟨_,rfl,k2 done _ d ?_ hd H2 K2 hR2 tR⟩;rw[hq,e];unfold comb iN;simp
 |true=>
  obtain⟨n,t1,hn⟩:=(ui _).2 hh;have e:=Sg35.sJ hn hso;have hnl:=Sg35.dQ hn;refine a9 ⟨fun Y' H'=>∃(t':B)(done:List (B×B))(nm:Option V),Y'=[some (.ref r),some (.ref d),nm]/\af [r] H H'/\RdR a H' r t'/\gQ H' d done/\done.length+t'.length<=65600/\attrs q=comb done (attrs t')/\t'.length<t.length,
   fun Y' H' ⟨t',done,nm,e1,e2,e3,e4,e5,e6,e7⟩=>⟨_,e7,t',done,nm,e1,e2,e3,e4,e5,e6,rfl⟩,?_⟩
  refine⟨_,rfl,r,_,rfl,hR2,fun hn2=>absurd hn2 (by rw[hn];simp),fun n' t1' hn2 H3 kp3 hR3=>?_⟩;rw[hn]at hn2;cases hn2;have Jb:gQ H3 d done:=⟨kp3.one tR.1 hrd,tR.2⟩;refine⟨_,rfl,_,rfl,d,_,rfl,fY.k (k:=Sum.inr (sg n)) Jb.1,_,rfl,?_⟩;rw[JZ];cases hin:done.any fun b=>b.1==n with
  |true=>
   refine a9 ((k1 ?_).1 _);rw[hq,e];cases Sg35.valueAt t1 with
   |none=>rfl
   |some v=>exact Jx hin _
  |false=>
   refine aT ?_;refine je rfl hR3 Tz (by decide) (fun t2 e2 H4 kp4 hR4=>?_) (fun hno=>(k1 ?_).1)
   .subst e2;refine⟨_,rfl,r,t2,rfl,hR4,fun hv=>(k1 ?_).1,fun v t3 hv H5 kp5 hR5=>?_⟩
    .rw[hq,e,show([61]++t2:B)=61::t2 from rfl,hv];rfl
    have Uq:gQ H5 d done:=⟨kp5.one (kp4.one Jb.1 hrd) hrd,Jb.2⟩;have hvl:=Sg35.oH hv;have hvm:=xn hv;have Yr:=hR4.byt;have hl4:=hR4.len;have XZ:=hnl.1;simp only[length_cons,length_append,length_nil]at hvl XZ;refine⟨_,rfl,_,rfl,d,_,rfl,FZ.k (k:=Sum.inr (sg n)) Uq.1 (by unfold atK;rw[length_map,sizeLine_eq];omega),?_⟩;have V2:dJ (atK done) (Sum.inr (sg n))=none:=by
     have:=JZ done n;rw[hin]at this;exact Option.isSome_eq_false_iff.mp this |> Option.isNone_iff_eq_none.mp
    have ek:putK (atK done) (Sum.inr (sg n)) (V.str (sg (v.map Sg35.tr)))=atK (done++[(n,v)]):=by
     rw[Hy _ V2];unfold atK;rw[map_append];rfl
    rw[ek];refine⟨t3,done++[(n,v)],_,rfl,?_,?_,⟨ae,?_⟩,?_,?_,?_⟩
    .exact af.drop (K2.trans (kp3.trans (kp4.trans kp5))) (af.set (by simp) (by rw[Uq.1];exact trivial)) hd
    .exact hR5.keep (M:=[d]) (af.set (by simp) (by rw[Uq.1];exact trivial)) (by simpa using hrd.symm)
    .intro p hp;rcases mem_append.mp hp with hp|hp
     .exact hat.2 p hp
     .rw[mem_singleton.mp hp];refine⟨?_,fun c hc=>?_⟩
      .have:=hvm.2;simp only[length_cons]at this;have h6:=hR3.len;simp only[length_cons,length_append,length_nil]at h6;show v.length<=65600;omega
      .rcases mem_cons.mp (hvm.1 c hc)with z|z
       .omega
       .exact Yr c z
    .rw[length_append,length_cons,length_nil];omega
    .rw[hq,e,show([61]++t2:B)=61::t2 from rfl,hv];exact FJ hin _
    .omega
   .rw[hq,e,Sg35.lG fun q v z=>hno (q::v) z];rfl
theorem Vy{q n t:B}(h:Sg35.nameAt q=some (n,t))(hl:q.length<=65600):Nm n:=by
 obtain⟨c,r,e,hc,hn,_⟩:=Sg35.j6 h;have hci:=Sg35.fM hc;refine⟨⟨c,r.takeWhile inName,by rw[hn,e,takeWhile_cons,if_pos hci],hc⟩,fun d hd=>?_,?_⟩
 .rw[hn]at hd;exact bF hd
 .rw[hn];have:=len_takeWhile inName q;omega
theorem R9(uQ:T.J7)(Lw:T.QE)(gn:T.uN)(ee:T.pj)(Kp:T.PH):T.J4:=by
 refine T.Ge.fn.bz vC fun H Q E hr h=>?_
 obtain⟨r,q,rfl,hR,k1,k2⟩:=h;refine⟨_,(aa (aw 1 vC.nd (pcD uQ hr T.Gg ay (pa1 (pv 0))))
   (aa (aw 2 vC.nd (pcD Lw hr T.N9 ay (pa1 (pv 0))))
   (aa (aw 3 vC.nd (aM (pv 0) T.ar T.gL gn hr T.ni ay (pa1 aN)))
   (aa (aK (aM (pv 0) T.ar T.gd ee hr T.lA ay (pa1 aN)))
   (ah (aD (bW T.Tr Kp hr T.Mw T.JN ay (ai (pv 1) (ai (pv 2) (pa1 (pv 3))))))))))),?_⟩
 refine⟨_,rfl,r,q,rfl,hR,fun hn=>k1 (by unfold cT;rw[hn];rfl),fun n t hn H1 kp1 hR1=>?_⟩;have l4:cT q=(attrs t).bind fun z=>Sg35.jL n z.1 z.2:=by unfold cT;rw[hn];rfl
 have hnm:=Vy hn hR.len;refine⟨_,rfl,r,t,rfl,hR1,fun ha=>⟨k1 (by rw[l4,ha];rfl),fun d as c t1 hc hd H2 kp2 hR2 hat=>?_⟩,fun as t1 d ha hd H2 kp2 hR2 hat=>?_⟩
 .have h47:c≠47:=by rintro rfl;exact absurd hc (by decide)
  have h62:c≠62:=by rintro rfl;exact absurd hc (by decide)
  refine lX rfl hR2 uo (by decide) (fun u hu=>absurd hu (by intro z;injection z with z;exact h47 z)) (fun _=>?_);exact je rfl hR2 rB (by decide) (fun u hu=>absurd hu (by intro z;injection z with z;exact h62 z)) (fun _=>k1 (by rw[l4,ha];rfl))
 .rw[ha]at l4;dsimp only[bind_some]at l4;have hdr:d≠r:=(hR1.ne hd).symm;have fin:∀(sh:Bool)(u:B)(H3:Hp),cT q=some ⟨n,as,sh,u⟩->af [r] H2 H3->RdR a H3 r u->gQ H3 d as->Gk (oM a.fk (oP a) [] E (cb (cU 1) (cb (cU 2) (cb (cU 3) fE)))) {nx:=fun _ H'=>Q .non H',rt:=Q} [some (.ref r),some (.str (sg n)),some (.ref d),some (.bl sh)] H3:=by
   intro sh u H3 ht kp3 hR3 Jb;refine⟨_,rfl,_,rfl,_,rfl,fun y dy hy hdy hne=>⟨y,dy,_,_,_,rfl,ae,fun H4 kp4 h4=>⟨rfl,?_⟩⟩⟩;have kk:=af.made hy hdy kp4;have K3:af [r] H H3:=kp1.trans (kp2.trans kp3);have hyr:y≠r:=(hR3.ne hy).symm;exact k2 ⟨n,as,sh,u⟩ y ht (K3.free hy (by simpa using hyr)) H4 (K3.trans kk.up) (hR3.eC kk) ⟨dy,d,h4,Jb.keep kk,hnm⟩
  refine lX rfl hR2 uo (by decide) (fun u hu H3 kp3 hR3=>?_) (fun hno=>?_)
  .subst hu;refine je rfl hR3 rB (by decide) (fun u2 hu2 H4 kp4 hR4=>?_) (fun hno=>k1 ?_)
   .subst hu2;exact fin true u2 H4 (by rw[l4];exact Sg35.oJ n as u2) (kp3.trans kp4) hR4 ⟨kp4.one (kp3.one hat.1 hdr) hdr,hat.2⟩
   .rw[l4];refine Sg35.nM (fun z hz=>?_) (fun z hz=>?_)
    .injection hz with _ hz;exact hno z hz
    .injection hz with hz;exact absurd hz (by decide)
  .refine je rfl hR2 rB (by decide) (fun u2 hu2 H4 kp4 hR4=>?_) (fun XY=>k1 ?_)
   .subst hu2;exact fin false u2 H4 (by rw[l4];exact Sg35.oK n as u2) kp4 hR4 ⟨kp4.one hat.1 hdr,hat.2⟩
   .rw[l4];exact Sg35.nM (fun z hz=>hno (62::z) hz) (fun z hz=>XY z hz)
theorem M7(n:Nat):decide (V.int (n:Int)=V.int 3)=decide (n=3):=by
 rw[Bool.eq_iff_iff,decide_eq_true_eq,decide_eq_true_eq];constructor
 .intro z;injection z with z;omega
 .intro z;rw[z];rfl
theorem Mn:T.sN:=by
 refine T.jM.fn.okA LZ fun H Q E hr h=>?_
 obtain⟨p,z,rfl,hp,k⟩:=h;refine⟨_,(ah (aD (bH (ai (ao aH (aB T.jn) (az aA (pv 0) ag)) (pa1 (ao aH (aB T.jn) (az aA (pv 0) ag))))))),?_⟩;dsimp only[bq];exact⟨_,rfl,_,_,_,_,rfl,rfl,hp,rfl,_,_,rfl,rfl,.inl (by decide),_,rfl,_,_,_,_,rfl,rfl,hp,rfl,_,_,rfl,rfl,.inl (by decide),sl2,fun t ht=>k t _ (af.new ht) ht ae⟩
theorem SS:T.Qm:=by
 refine T.NV.fn.bz Rr fun H Q E hr h=>?_
 obtain⟨p,z,rfl,hp,k1,k2⟩:=h;refine⟨_,(ah (aR (oQ (aF jX (aL kA T.sE (pa1 (az aA (pv 0) ag))) (aB T.o8)) (lO (aF jX (aL kA T.sE (pa1 (az aA (pv 0) ag))) (aB T.o8)))).pt (ah (bo T.aJ (by rfl))) aI)),?_⟩;dsimp only[bq];have key:∀u:Int,decide ((65536:Int)<(if u<0 then -u else u))=!near u:=fun u=>by
  unfold near;rw[Bool.eq_iff_iff,decide_eq_true_eq,Bool.not_eq_true',decide_eq_false_iff_not];split<;>omega
 refine⟨_,rfl,_,_,_,_,rfl,rfl,hp,rfl,_,rfl,_,_,rfl,rfl,!near z.1,congrArg V.bl (key z.1),?_⟩;unfold eB at k1 k2;cases h1:near z.1 with
 |false=>
  rw[h1]at k1;exact a9 (a9 (k1 rfl _))
 |true=>
  rw[h1]at k1 k2;refine aT ⟨_,rfl,_,_,_,_,rfl,rfl,hp,rfl,_,rfl,_,_,rfl,rfl,!near z.2,congrArg V.bl (key z.2),?_⟩;cases h2:near z.2 with
  |false=>
   rw[h2]at k1;exact a9 (k1 rfl _)
  |true=>
   rw[h2]at k2;exact aT (k2 rfl)
theorem Tb:T.QB:=by
 refine T.N7.fn.bz GH fun H Q E hr h=>?_
 obtain⟨k,n,rfl,hk,q⟩:=h;refine⟨_,(aa (aw 2 GH.nd (ao cg (aB T.jA) (pv 0)))
   (aa (aR (aF dr (pv 1) ag) (ah (aD (bH (ai (ao aH (ao aH ag (pv 2)) (pv 2)) (ai (ao aH (ao aH ag (pv 0)) (pv 2)) (pa1 (ao aH (ao aH ag (pv 0)) (pv 0)))))))) aI)
   (ah (aD (bH (ai (ao aH (ao aH (pv 2) (pv 2)) (pv 2)) (ai (ao aH (ao aH (ao aH ag (pv 0)) (pv 2)) (pv 2)) (ai (ao aH (ao aH (ao aH ag (pv 0)) (pv 0)) (pv 2)) (pa1 (ao aH (ao aH (pv 0) (pv 0)) (pv 0))))))))))),?_⟩
 refine⟨_,rfl,_,_,rfl,rfl,?_⟩;have b1:-(2^64)<(16:Int)-(1+(k:Int))/\(16:Int)-(1+(k:Int))<2^64:=by omega
 have b2:-(2^64)<(1:Int)+(k:Int)/\(1:Int)+(k:Int)<2^64:=by omega
 have e:(1:Int)+(k:Int)=(k:Int)+1:=Int.add_comm ..;refine⟨_,rfl,rfl,decide (n=3),congrArg V.bl (M7 n),?_⟩;by_cases h3:n=3
 .refine dT h3 ⟨_,rfl,_,_,rfl,rfl,.inr b1,_,rfl,_,_,rfl,rfl,.inr b1,_,rfl,_,_,rfl,rfl,.inr b2,_,rfl,_,_,rfl,rfl,.inr b1,_,rfl,_,_,rfl,rfl,.inr b2,_,rfl,_,_,rfl,rfl,.inr b2,sl3,fun t ht=>?_⟩;refine q t _ (af.new ht) ?_;unfold fP;rw[if_pos h3,<-e];exact SqT.of ae
 .refine dF h3 ⟨_,rfl,_,rfl,_,_,rfl,rfl,.inr b1,_,rfl,_,_,rfl,rfl,.inr b1,_,rfl,_,_,rfl,rfl,.inr b2,_,rfl,_,_,rfl,rfl,.inr b1,_,rfl,_,_,rfl,rfl,.inr b1,
   _,rfl,_,_,rfl,rfl,.inr b2,_,rfl,_,_,rfl,rfl,.inr b2,_,rfl,_,_,rfl,rfl,.inr b1,_,rfl,_,rfl,_,_,rfl,rfl,.inr b2,_,rfl,_,_,rfl,rfl,.inr b2,sl4,fun t ht=>?_⟩
  refine q t _ (af.new ht) ?_;unfold fP;rw[if_neg h3,<-e];exact SqT.of ae
theorem lcZ{K:Frag}{c t D:Addr}{ts:List Addr}{cs:List Pt}{ws:List Int}{f:Pt->Int}{te:TE}{H1:Hp}{Qd:Hp->Prop}(hc:H1 c=some (.lst (ts.map V.ref)))(hts:cZ K H1 ts cs)(hw:SqT K H1 t (ws.map V.int))(hlen:cs.length<=ws.length)(Us:cs.length<=100)(hD:H1 D=none)
  (he:∀(y:Addr)(p:Pt)(wt:Int)(H2:Hp)(R:VK),p∈cs->PtT K H2 y p->R (.int (f p*wt)) H2->te [some (.ref c),some (.ref t),some (.ref y),some (.int wt)] H2 R)
  (k:∀H',af [] H1 H'->LsI H' D ((cs.zip ws).map fun z=>f z.1*z.2)->Qd H'):
  ∃W:Nat->Nat->Hp->Prop,(∃m,W 0 m (upd H1 D (.lst [])))/\∀i m H,W i m H->
   ((Kl K c t).stop i H/\Qd H)\/((Kl K c t).go i H/\∃Nx:Hp->Prop,(∀H',Nx H'->∃m',m'<m/\W (i+1) m' H')/\∀x H',(Kl K c t).yld i H x H'->
    MX K 2 (rX (g9 2) (rX (g9 3) MY)) x (wipe [some (.ref c),some (.ref t),none,none] [2,3]) H' fun Y2 H2=>wipe Y2 [2,3]=wipe [some (.ref c),some (.ref t),none,none] [2,3]/\QP Y2 H2 fun b H3=>
     if b=true then te Y2 H3 fun y H4=>∃acc,H4 D=some (.lst acc)/\acc.length<sizeLine/\Nx (upd H4 D (.lst (acc++[y])))else Nx H3):=by
 have hl:=hts.length;refine⟨fun i m H=>m=cs.length-i/\i<=cs.length/\af [] H1 H/\LsI H D (((cs.zip ws).take i).map fun z=>f z.1*z.2),⟨_,rfl,zero_le _,af.new hD,ae⟩,?_⟩;rintro i m H ⟨rfl,hi,kp,ki⟩;have hcH:SqL K H c (ts.map V.ref):=SqL.of (kp.at hc);have hwH:SqT K H t (ws.map V.int):=kp.sqT hw;by_cases hlt:i<cs.length
 .obtain⟨p,hp⟩:∃p,cs[i]?=some p:=⟨_,List.getElem?_eq_getElem hlt⟩;obtain⟨y,hy,hyp⟩:=hts.get hp;obtain⟨wt,hwt⟩:∃wt,ws[i]?=some wt:=⟨_,List.getElem?_eq_getElem (by omega)⟩;have ey:(ts.map V.ref)[i]?=some (.ref y):=by rw[List.getElem?_map,hy];rfl
  have ew:(ws.map V.int)[i]?=some (.int wt):=by rw[List.getElem?_map,hwt];rfl
  refine .inr ⟨⟨_,_,_,_,hcH,hwH,ey,ew⟩,fun H'=>af [] H1 H'/\LsI H' D (((cs.zip ws).take (i+1)).map fun z=>f z.1*z.2),fun H' hn=>⟨cs.length-(i+1),by omega,rfl,hlt,hn.1,hn.2⟩,?_⟩;rintro x H' ⟨T,x',y',rfl,hT,rfl,hx',hy'⟩;have e1:=hx' _ hcH;have e2:=hy' _ hwH;rw[ey]at e1;rw[ew]at e2;cases e1;cases e2;have kT:af [] H (upd H T (.tup [.ref y,.int wt])):=af.new hT;refine⟨T,_,rfl,SqT.of ae,rfl,_,_,rfl,_,_,rfl,rfl,rfl,?_⟩;refine he y p wt _ _ (mem_of_getElem? hp) (PtT.keep (PtT.keep hyp kp) kT) ⟨_,kT.at ki,?_,?_,?_⟩
  .rw[length_map,length_map,length_take,sizeLine_eq];omega
  .exact af.drop (kp.trans kT) (af.set (by simp) (by rw[kT.at ki];exact trivial)) hD
  .unfold LsI;rw[ae,take_succ];have ez:(cs.zip ws)[i]?=some (p,wt):=by rw[List.getElem?_zip_eq_some];exact⟨hp,hwt⟩
   rw[ez,map_append,map_append];rfl
 .have:i=cs.length:=by omega
  subst this;refine .inl ⟨⟨_,hcH,by rw[length_map,hl];exact le_refl _⟩,k H kp ?_⟩;rw[take_of_length_le (by rw[List.length_zip];omega)]at ki;exact ki
theorem Ig{u:Int}(h:near u=true):-(2^64)<u/\u<2^64:=by
 unfold near at h;have:=of_decide_eq_true h;omega
theorem R4:T.PB:=by
 refine T.Nt.fn.bz lL fun H Q E hr h=>?_
 obtain⟨c,t,ts,cs,ws,rfl,hc,hts,yK,hw,Us,hlen,k⟩:=h;refine⟨_,(ah (aD (bH (ai (aL (Ju rfl) T.JL (pa1 (qN rfl lL.nd (yc (by rfl) T.JJ (ai (pv 0) (pa1 (pv 1)))) (fW (own:=[("corner",2),("weight",3)]) (by with_unfolding_all rfl)) (fun s H C cl fp=>(show PG _ _ (MX K 2 (rX (g9 2) (rX (g9 3) MY)))from HI rfl (mD (bG 2 lL.nd) (mD (bG 3 lL.nd) Di)))) (fun s H C cl fp=>gV) (fun s H C cl fp=>(ao aH (az (show IxR _ (Ep K)from aA) (pv 2) ag) (pv 3)))))) (pa1 (aL (Ju rfl) T.JL (pa1 (qN rfl lL.nd (yc (by rfl) T.JJ (ai (pv 0) (pa1 (pv 1)))) (fW (own:=[("corner",2),("weight",3)]) (by with_unfolding_all rfl)) (fun s H C cl fp=>(show PG _ _ (MX K 2 (rX (g9 2) (rX (g9 3) MY)))from HI rfl (mD (bG 2 lL.nd) (mD (bG 3 lL.nd) Di)))) (fun s H C cl fp=>gV) (fun s H C cl fp=>(ao aH (az (show IxR _ (Ep K)from aA) (pv 2) ag) (pv 3))))))))))),?_⟩;dsimp only[bq];have hn1:∀p∈cs,near p.1=true/\near p.2=true:=fun p hp=>by
  have:=yK p hp;unfold eB at this;simpa using this
 refine⟨_,rfl,_,rfl,c,t,_,_,rfl,SqL.of hc,hw,fun D hD=>?_⟩;refine lcZ (f:=fun p=>p.1) hc hts hw hlen Us hD (fun y p wt H2 R hp hyp hR=>?_) fun H1 kp1 Wm=>?_
 .exact⟨_,rfl,_,_,_,_,rfl,rfl,hyp,rfl,_,rfl,_,_,rfl,rfl,.inl (Ig (hn1 p hp).1),hR⟩
 refine⟨D,_,rfl,SqL.of Wm,_,rfl,_,rfl,c,t,_,_,rfl,SqL.of (kp1.at hc),kp1.sqT hw,fun D2 hD2=>?_⟩;refine lcZ (f:=fun p=>p.2) (kp1.at hc) (hts.keep kp1) (kp1.sqT hw) hlen Us hD2 (fun y p wt H2 R hp hyp hR=>?_) fun H2 kp2 Wl=>?_
 .exact⟨_,rfl,_,_,_,_,rfl,rfl,hyp,rfl,_,rfl,_,_,rfl,rfl,.inl (Ig (hn1 p hp).2),hR⟩
 refine⟨D2,_,rfl,SqL.of Wl,sl2,fun u hu=>?_⟩;exact k u _ ((kp1.trans kp2).trans (af.new hu)) (SqT.of ae)
theorem E7:∀c<128,aV c=true->Txt.islower (sg [c])=decide (97<=c):=by decide +kernel
theorem qI{c:Nat}(h:aV c=true):c<=122:=by
 unfold aV letter at h;simp only[Bool.and_eq_true,Bool.or_eq_true,decide_eq_true_eq]at h;omega
theorem VO{c:Nat}(h:aV c=true):Txt.islower (sg [c])=decide (97<=c):=E7 c (by have:=qI h;omega) h
theorem upS{c:Nat}(h:aV c=true):Txt.upper (sg [c])=sg [aC c]:=by
 have hc:=qI h;rw[upper_ascii (x:=sg [c]) (by intro d hd;rw[show(sg [c]).cps.toList=[c]from cw]at hd;rw[mem_singleton.mp hd];omega)]
 apply ox
 show(Array.map up1 (sg [c]).cps).toList=tl (sg [aC c]);rw[cw,Array.toList_map,show(sg [c]).cps.toList=[c]from cw];show [up1 c]=[aC c];unfold up1 aC;congr 1
 by_cases h9:97<=c
 .rw[if_pos ⟨h9,hc⟩,if_pos (decide_eq_true h9)]
 .rw[if_neg (fun z=>h9 z.1),if_neg (by rw[decide_eq_false h9];exact Bool.false_ne_true)]
theorem LB{c d:Nat}(h:aV c=true){s:String}(hs:ascii s=[d]):decide (V.str (Txt.upper (sg [c]))=V.str (s:Str))=decide (aC c=d):=by
 rw[Bool.eq_iff_iff,decide_eq_true_eq,decide_eq_true_eq,upS h,lit,hs];constructor
 .intro z;injection z with z;have:=jT z;injection this
 .intro z;rw[z]
theorem nJ{bx by_:Int}:∀{l:List Int}{i:Nat}{x y:Int},l[2*i]?=some x->l[2*i+1]?=some y->(gh bx by_ l)[i]?=some (bx+x,by_+y)
 |[],i,x,y,h,_=>by simp at h
 |[_],0,x,y,_,h=>by simp at h
 |[_],i+1,x,y,h,_=>by rw[show 2*(i+1)=2*i+1+1 by omega]at h;simp at h
 |u::v::r,0,x,y,h1,h2=>by
  simp at h1 h2;subst h1 h2;rfl
 |u::v::r,i+1,x,y,h1,h2=>by
  rw[show 2*(i+1)=2*i+1+1 by omega]at h1 h2;simp only[List.getElem?_cons_succ]at h1 h2;have:=nJ (bx:=bx) (by_:=by_) (l:=r) (i:=i) h1 h2;simpa [gh] using this
theorem gA{bx by_:Int}:∀{n:Nat}{l:List Int},l.length=2*n->(gh bx by_ l).length=n
 |0,l,h=>by
  have:l=[]:=length_eq_zero_iff.mp (by omega);subst this;rfl
 |n+1,[],h=>by simp at h
 |n+1,[_],h=>by simp at h;omega
 |n+1,u::v::r,h=>by
  have:=gA (bx:=bx) (by_:=by_) (n:=n) (l:=r) (by simp at h;omega);simp[gh,this]
theorem rgS{n c:Nat}(hc:0<c):Builtin.Range.rangeSize 0 ((c*n:Nat):Int) (c:Int)=n:=by
 unfold Builtin.Range.rangeSize;rw[if_pos (by omega)];cases n with
 |zero=>rw[if_neg (by simp)];rfl
 |succ n=>
  have h1:(0:Int)<((c*(n+1):Nat):Int):=by
   have:0<c*(n+1):=Nat.mul_pos hc (Nat.succ_pos n);omega
  rw[if_pos h1];have h2:(((c*(n+1):Nat):Int)-0-1)=((c-1:Nat):Int)+(c:Int)*(n:Int):=by
   rw[Nat.mul_succ];simp only[Int.natCast_add,natCast_mul];omega
  rw[h2,Int.add_mul_ediv_left _ _ (by omega),Int.ediv_eq_zero_of_lt (by omega) (by omega)];omega
theorem rgC{n c:Nat}(hc:0<c)(hc6:c<=6)(h:c*n<=2000000):RgC 0 ((c*n:Nat):Int) (c:Int) n:=by
 refine⟨by omega,by omega,?_,rgS hc⟩;unfold Builtin.Range.small;rw[rgS hc];have hn:n<=2000000:=le_trans (Nat.le_mul_of_pos_left n hc) h;generalize c*n=m at h;simp only[Builtin.Range.rangeFitsLong,Bool.and_eq_true,Bool.or_eq_true,decide_eq_true_eq,beq_iff_eq,show((c:Int)>0) by omega,if_true];omega
theorem rg2{n:Nat}(h:n<=30000):RgC 0 ((2*n:Nat):Int) 2 n:=rgC (c:=2) (by decide) (by decide) (by omega)
theorem Ng{K:Frag}{Y:L2.St}{H:Hp}{s:Addr}{st:Pt}{tt:TT}{j:Nat}{u:TS}{D:Ends}(b:Bool)(ht:∀R:Bool->Hp->Prop,R b H->tt Y H R)(hs:PtT K H s st)(hY:Y[0]?=some (some (.ref s)))
  (k:∀ba H1,af [] H H1->PtT K H1 ba (if b=true then st.1 else 0,if b=true then st.2 else 0)->u D (Y.set j (some (.ref ba))) H1):
  D9 (Ea (tIf tt (cU 0) (QR (cb (tC (.int 0)) (cb (tC (.int 0)) fE)))) (g9 j)) u D Y H:=by
 refine ht _ ?_;cases b with
 |true=>exact a9 ⟨_,hY,k s H af.refl hs⟩
 |false=>exact aT ⟨by show 2<=sizeLine;decide,fun t0 ht0=>k t0 _ (af.new ht0) (SqT.of ae)⟩
theorem SR:T.Ql:=by
 refine T.NU.fn.bz vJ fun H Q E hr h=>?_
 obtain⟨sa,p,st,x,c,l,rfl,hs,⟨rfl,hpl⟩,h90,hl,har,k⟩:=h;refine⟨_,(aa (aw 3 vJ.nd (mE (cV (i7 F.plainAttrs_str F.slot_str_islower F.type_str_islower Bs (pv 1))) (pv 0) (bH (ai ag (pa1 ag)))))
   (aa (aR (aF dr (i7 F.plainAttrs_str F.slot_str_upper F.type_str_upper j7 (pv 1)) aN) (ah (aD (cW (pa1 (bH (ai (ao aQ (az aA (pv 3) ag) (az bh (pv 2) ag)) (pa1 (az aA (pv 0) ag)))))))) aI)
   (aa (aR (aF dr (i7 F.plainAttrs_str F.slot_str_upper F.type_str_upper j7 (pv 1)) aN) (ah (aD (cW (pa1 (bH (ai (az aA (pv 0) ag) (pa1 (ao aQ (az aA (pv 3) ag) (az bh (pv 2) ag))))))))) aI)
   (ah (aD (qN rfl vJ.nd (nY (by rfl) T.fq (ai ag (ai (aL aP T.cC (pa1 (pv 2))) (pa1 ag)))) (fW (own:=[("k",4)]) (by with_unfolding_all rfl)) (fun s H C cl fp=>(bG 4 vJ.nd)) (fun s H C cl fp=>gV) (fun s H C cl fp=>(bH (ai (ao aQ (az (show IxR _ (Ep K)from aA) (pv 3) ag) (az (show IxR _ (Er K)from bh) (pv 2) (pv 4))) (pa1 (ao aQ (az (show IxR _ (Ep K)from aA) (pv 3) ag) (az (show IxR _ (Er K)from bh) (pv 2) (ao aQ (pv 4) ag))))))))))))),?_⟩
 dsimp only[bq];refine Ng (decide (97<=c)) (fun R hR=>⟨_,rfl,rfl,_,rfl,rfl,trivial,_,congrArg V.bl (VO hpl),hR⟩) hs rfl fun ba H1 kp hb=>?_
 generalize hbx:(if decide (97<=c)=true then st.1 else 0)=bx at hb;generalize hby:(if decide (97<=c)=true then st.2 else 0)=by_ at hb;have hl1:LsI H1 p l:=kp.at hl;have hs1:PtT K H1 sa st:=hs.keep kp;have l1:(sg [c]).length<=5592405:=by rw[bT];simp
 have told:∀g,aC c=g->toldOf st (decide (97<=c)) (aC c) l=if g=72 then [(bx+l.headD 0,st.2)]else if g=86 then [(st.1,by_+l.headD 0)]else gh bx by_ l:=fun g hg=>by
  unfold toldOf;dsimp only;rw[hbx,hby,hg]
 refine⟨_,rfl,rfl,_,rfl,rfl,l1,rfl,decide (aC c=72),congrArg V.bl (LB hpl (by decide +kernel)),?_⟩;by_cases h72:aC c=72
 .rw[decide_eq_true h72];have hlen:l.length=1:=by rw[har,h72];rfl
  have tq:=told 72 h72
  match l,hlen,hl1,k,tq with
  |[x0],_,hl1,k,tq=>
   refine a9 ⟨_,rfl,_,_,_,_,rfl,rfl,hb,rfl,_,rfl,_,_,_,_,rfl,rfl,SqL.of hl1,rfl,_,_,rfl,rfl,_,rfl,_,_,_,_,rfl,rfl,hs1,rfl,sl2,fun t0 ht0=>⟨sl1,fun t1 ht1=>?_⟩⟩;refine k t1 [t0] _ (kp.trans ((af.new ht0).trans (af.new ht1))) (kp.bP ((af.new (M:=[]) ht0).bP ht1)) ae ?_;rw[tq,if_pos rfl];exact .cons (SqT.of ((af.new (M:=[]) ht1).at ae)) .nil
 refine dF h72 ⟨_,rfl,rfl,_,rfl,rfl,l1,rfl,decide (aC c=86),congrArg V.bl (LB hpl (by decide +kernel)),?_⟩;by_cases h86:aC c=86
 .rw[decide_eq_true h86];have hlen:l.length=1:=by rw[har,h86];rfl
  have tq:=told 86 h86
  match l,hlen,hl1,k,tq with
  |[x0],_,hl1,k,tq=>
   refine a9 ⟨_,rfl,_,_,_,_,rfl,rfl,hs1,rfl,_,rfl,_,_,_,_,rfl,rfl,hb,rfl,_,rfl,_,_,_,_,rfl,rfl,SqL.of hl1,rfl,_,_,rfl,rfl,sl2,fun t0 ht0=>⟨sl1,fun t1 ht1=>?_⟩⟩;refine k t1 [t0] _ (kp.trans ((af.new ht0).trans (af.new ht1))) (kp.bP ((af.new (M:=[]) ht0).bP ht1)) ae ?_;rw[tq,if_neg (by decide),if_pos rfl];exact .cons (SqT.of ((af.new (M:=[]) ht1).at ae)) .nil
 rw[decide_eq_false h86];obtain⟨n,hn,hn6⟩:∃n,l.length=2*n/\n<=3:=by
  unfold arity at har;split at har
  .exact⟨1,by omega,by omega⟩
  .split at har
   .rename_i z;rcases z with z|z
    .exact absurd z h72
    .exact absurd z h86
   .split at har
    .exact⟨2,by omega,by omega⟩
    .split at har
     .exact⟨3,by omega,by omega⟩
     .exact⟨0,by omega,by omega⟩
 have tq:=told _ rfl;rw[if_neg h72,if_neg h86]at tq;rw[tq]at k;have hul:=gA (bx:=bx) (by_:=by_) hn;refine aT ⟨_,rfl,p,_,rfl,.inl (SqL.of hl1),0,_,2,n,rfl,(by rw[length_map,hn];exact rg2 (by omega)),fun D hD=>?_⟩;refine⟨fun i m H'=>m=n-i/\i<=n/\af [] H1 H'/\∃ts,H' D=some (.lst (ts.map V.ref))/\ts.length=i/\cZ K H' ts ((gh bx by_ l).take i),⟨_,rfl,zero_le _,af.new hD,[],ae,rfl,.nil⟩,?_⟩;rintro i m H2 ⟨rfl,hi,kp2,ts,hts,htl,tO⟩;by_cases hlt:i<n
 .refine .inr ⟨hlt,fun H'=>af [] H1 H'/\∃ts,H' D=some (.lst (ts.map V.ref))/\ts.length=i+1/\cZ K H' ts ((gh bx by_ l).take (i+1)),fun H' hq=>⟨n-(i+1),by omega,rfl,hlt,hq.1,hq.2⟩,?_⟩;rintro y H3 ⟨rfl,rfl⟩;obtain⟨u,hu⟩:∃u,l[2*i]?=some u:=⟨_,List.getElem?_eq_getElem (by omega)⟩;obtain⟨v,hv⟩:∃v,l[2*i+1]?=some v:=⟨_,List.getElem?_eq_getElem (by omega)⟩;have hu':atI (l.map V.int) (0+(i:Int)*2)=some (V.int u):=by
   rw[show(0+(i:Int)*2)=((2*i:Nat):Int) by omega];exact dm (by rw[List.getElem?_map,hu];rfl)
  have hv':atI (l.map V.int) (0+(i:Int)*2+1)=some (V.int v):=by
   rw[show(0+(i:Int)*2+1)=((2*i+1:Nat):Int) by omega];exact dm (by rw[List.getElem?_map,hv];rfl)
  have hl3:SqL K H3 p (l.map V.int):=SqL.of (kp2.at hl1);have hb3:PtT K H3 ba (bx,by_):=hb.keep kp2;refine⟨rfl,_,rfl,_,_,_,_,rfl,rfl,hb3,rfl,_,rfl,_,rfl,_,_,_,_,rfl,rfl,hl3,hu',_,_,rfl,rfl,_,rfl,_,_,_,_,rfl,rfl,hb3,rfl,_,rfl,_,rfl,_,_,rfl,rfl,_,_,_,_,rfl,rfl,hl3,hv',_,_,rfl,rfl,sl2,fun t0 ht0=>?_⟩;have k0:af [] H3 (upd H3 t0 (.tup [.int (bx+u),.int (by_+v)])):=af.new ht0;refine⟨_,k0.at hts,(by rw[length_map,sizeLine_eq];omega),?_,ts++[t0],?_,?_,?_⟩
  .exact af.drop (kp2.trans k0) (af.set (by simp) (by rw[k0.at hts];exact trivial)) hD
  .rw[ae,map_append];rfl
  .rw[length_append,htl];rfl
  .have kk:af [D] H3 (upd (upd H3 t0 (.tup [.int (bx+u),.int (by_+v)])) D (.lst (ts.map V.ref++[V.ref t0]))):=k0.up.trans (af.set (by simp) (by rw[k0.at hts];exact trivial));rw[take_succ,nJ hu hv];refine(tO.keep kk).snoc ?_;exact SqT.of ((af.set (M:=[D]) (by simp) (by rw[k0.at hts];exact trivial)).tp _ _ ae)
 .have:i=n:=by omega
  subst this;refine .inl ⟨le_refl _,?_⟩;rw[take_of_length_le (by omega)]at tO;exact k D ts H2 (kp.trans kp2) (kp.bP hD) hts tO
theorem iz{u v z:V}:(pnF u v z).lookup ("lines":Str)=some u:=rfl
theorem qH{u v z:V}:(pnF u v z).lookup ("stands":Str)=some v:=rfl
theorem Et{u v z:V}:(pnF u v z).lookup ("line_begin":Str)=some z:=rfl
theorem vV{u v z:V}{m:Str}(h1:(m=="lines")=false)(h2:(m=="stands")=false)(h3:(m=="line_begin")=false):(pnF u v z).lookup m=none:=(kO h1).trans ((kO h2).trans ((kO h3).trans rfl))
theorem mB{u v z y:V}:bw "stands" y (pnF u v z)=pnF u y z:=by
 unfold pnF;rw[bD (by decide +kernel),vY]
theorem HE{u v z y:V}:bw "line_begin" y (pnF u v z)=pnF u v y:=by
 unfold pnF;rw[bD (by decide +kernel),bD (by decide +kernel),vY]
section
variable{H H':Hp}{pn l:Addr}{rs:List Addr}{ls:Lines}{st bg:Pt}{n:Nat}
theorem bS.mem{r:Addr}(h:bS K H rs ls)(hr:r∈rs):∃ts,H r=some (.lst ts):=by
 induction h with
 |nil=>simp at hr
 |cons x y ih=>
  rcases mem_cons.mp hr with rfl|hr
  .obtain⟨ts,e,_⟩:=x;exact⟨_,e⟩
  .exact ih hr
theorem bu.apart(h:bu a K H pn l rs ls st bg n):pn≠l/\pn∉rs:=by
 obtain⟨dx,s,b,hob,_⟩:=h.ob;refine⟨iC hob h.lst (by intro z;cases z),fun hr=>?_⟩;obtain⟨ts,e⟩:=h.li.mem hr;rw[hob]at e;cases e
theorem bu.keep{M:List Addr}(h:bu a K H pn l rs ls st bg n)(k:af M H H')(d:∀x∈pn::l::rs,x∉M):bu a K H' pn l rs ls st bg n:=by
 obtain⟨dx,s,b,hob,h1,h2⟩:=h.ob;exact⟨⟨dx,s,b,k.kp _ _ hob (d _ (by simp)),h1.keep k,h2.keep k⟩,k.kp _ _ h.lst (d _ (by simp)),h.li.keep k fun r hr=>d r (by simp[hr]),h.nd,h.nl,h.few,h.tot⟩
theorem bu.eC(h:bu a K H pn l rs ls st bg n)(k:af [] H H'):bu a K H' pn l rs ls st bg n:=h.keep k fun x _=>by simp
theorem bu.mono{m:Nat}(h:bu a K H pn l rs ls st bg n)(hm:n<=m):bu a K H pn l rs ls st bg m:=⟨h.ob,h.lst,h.li,h.nd,h.nl,le_trans h.few hm,le_trans h.tot hm⟩
theorem bu.Ob{p:Addr}{z:Pt}{dx s b:Addr}(h:bu a K H pn l rs ls st bg n)(hob:H pn=some (.ins a.cN dx (pnF (.ref l) (.ref s) (.ref b))))(hbg:PtT K H b bg)(hp:PtT K H p z):
  bu a K (upd H pn (.ins a.cN dx (pnF (.ref l) (.ref p) (.ref b)))) pn l rs ls z bg n/\af (pn::l::rs) H (upd H pn (.ins a.cN dx (pnF (.ref l) (.ref p) (.ref b)))):=by
 obtain⟨n1,n2⟩:=h.apart;have k1:af [pn] H (upd H pn (.ins a.cN dx (pnF (.ref l) (.ref p) (.ref b)))):=af.set (by simp) (by rw[hob];exact trivial);refine⟨⟨⟨dx,p,b,ae,hp.keep k1,hbg.keep k1⟩,k1.one h.lst n1.symm,h.li.keep k1 fun r hr=>?_,h.nd,h.nl,h.few,h.tot⟩,k1.mono fun x hx=>by simp at hx;simp[hx]⟩;simp only[mem_singleton];rintro rfl;exact n2 hr
theorem bu.more{rs0:List Addr}{r t:Addr}{ts:List Addr}{D:Lines}{e:List Pt}{q:Pt}(h:bu a K H pn l (rs0++[r]) (D++[e]) st bg n)(h0:bS K H rs0 D)(hr:H r=some (.lst (ts.map V.ref)))(hts:cZ K H ts e)(ht:PtT K H t q):
  bu a K (upd H r (.lst (ts.map V.ref++[V.ref t]))) pn l (rs0++[r]) (D++[e++[q]]) st bg (n+1)/\af (pn::l::(rs0++[r])) H (upd H r (.lst (ts.map V.ref++[V.ref t]))):=by
 obtain⟨n1,n2⟩:=h.apart;have k1:af [r] H (upd H r (.lst (ts.map V.ref++[V.ref t]))):=af.set (by simp) (by rw[hr];exact trivial);obtain⟨dx,s,b,hob,hst,hbg⟩:=h.ob;have npr:pn≠r:=fun z=>n2 (by rw[z];simp)
 have nlr:l≠r:=fun z=>h.nl (by rw[z];simp)
 have nd:=h.nd;refine⟨⟨⟨dx,s,b,k1.one hob npr,hst.keep k1,hbg.keep k1⟩,k1.one h.lst nlr,?_,h.nd,h.nl,?_,?_⟩,k1.mono fun x hx=>by simp at hx;simp[hx]⟩
 .refine(h0.keep k1 fun x hx=>?_).snoc ⟨ts++[t],by rw[ae,map_append];rfl,(hts.keep k1).snoc (ht.keep k1)⟩;simp only[mem_singleton];rintro rfl;rw[List.nodup_append]at nd;exact nd.2.2 x hx x (by simp) rfl
 .have:=h.few;simp only[length_append,length_cons,length_nil]at this ⊢;omega
 .have:=h.tot;rw[mz]at this ⊢;rw[length_append];simp only[length_cons,length_nil];omega
theorem bu.line{r t:Addr}{q:Pt}(h:bu a K H pn l rs ls st bg n)(hr:H r=none)(ht:PtT K H t q):
  bu a K (upd (upd H r (.lst [V.ref t])) l (.lst (rs.map V.ref++[V.ref r]))) pn l (rs++[r]) (ls++[[q]]) st bg (n+1)/\af (pn::l::rs) H (upd (upd H r (.lst [V.ref t])) l (.lst (rs.map V.ref++[V.ref r]))):=by
 obtain⟨n1,n2⟩:=h.apart;have k0:af [] H (upd H r (.lst [V.ref t])):=af.new hr;have hl:=k0.at h.lst;have k1:af [l] (upd H r (.lst [V.ref t])) (upd (upd H r (.lst [V.ref t])) l (.lst (rs.map V.ref++[V.ref r]))):=af.set (by simp) (by rw[hl];exact trivial);obtain⟨dx,s,b,hob,hst,hbg⟩:=h.ob;have nlr:l≠r:=ak h.lst hr;have nrs:r∉rs:=fun z=>by
  obtain⟨ts,e⟩:=h.li.mem z;rw[hr]at e;cases e
 refine⟨⟨⟨dx,s,b,k1.one (k0.at hob) n1,(hst.keep k0).keep k1,(hbg.keep k0).keep k1⟩,by rw[ae,map_append];rfl,?_,Dn h.nd nrs,?_,?_,?_⟩,(k0.up.trans k1).mono fun x hx=>by simp at hx;simp[hx]⟩
 .refine((h.li.keep k0 fun x _=>by simp).keep k1 fun x hx=>?_).snoc ⟨[t],k1.one ae nlr.symm,.cons ((ht.keep k0).keep k1) .nil⟩;simp only[mem_singleton];rintro rfl;exact h.nl hx
 .intro z;rcases mem_append.mp z with z|z
  .exact h.nl z
  .exact nlr (mem_singleton.mp z)
 .have:=h.few;simp only[length_append,length_cons,length_nil];omega
 .have:=h.tot;rw[mz];simp only[length_cons,length_nil];omega
end
theorem R7:T.PJ:=by
 refine T.BK.bz Q6 fun H Q E hr h=>?_
 obtain⟨x,dx,rfl,hx,k⟩:=h;refine⟨_,(aa (aX (pv 0) (cW lS))
   (aa (aX (pv 0) (bH (ai ag (pa1 ag))))
   (ah (aX (pv 0) (bH (ai ag (pa1 ag))))))),?_⟩
 dsimp only[bq];refine⟨sl0,fun l hl=>?_⟩;have nxl:x≠l:=ak hx hl;refine⟨_,rfl,x,a.cN,dx,_,rfl,(by rw[aq nxl];exact hx),T.dk,T.d4,(by show 0<1000;decide),?_⟩;refine⟨sl2,fun t1 ht1=>⟨_,rfl,x,a.cN,dx,_,rfl,(af.new (M:=[]) ht1).at ae,T.dk,T.dG,lt1,?_⟩⟩;refine⟨sl2,fun t2 ht2=>⟨_,rfl,x,a.cN,dx,_,rfl,(af.new (M:=[]) ht2).at ae,T.dk,T.fe,(by rw[dP,bD (by decide +kernel),dP];show 2<1000;decide),?_⟩⟩;show Q _ (upd (upd (upd (upd (upd (upd H l _) x _) t1 _) x _) t2 _) x _);rw[dP,bD (by decide +kernel),dP,bD (by decide +kernel),bD (by decide +kernel),dP]at *;have m1:∀(o:HO)(G:Hp)(fs:List (Str×V)),G x=some (.ins a.cN dx fs)->af [x] G (upd G x o):=fun o G fs e=>af.set (by simp) (by rw[e];exact trivial)
 have K1:af [x] H (upd H l (.lst [])):=af.new hl;have K2:=K1.trans (m1 (.ins a.cN dx [("lines",V.ref l)]) _ _ (by rw[aq nxl];exact hx));have K3:af [x] H (upd (upd (upd H l (.lst [])) x (.ins a.cN dx [("lines",V.ref l)])) t1 (.tup [.int 0,.int 0])):=K2.trans (af.new ht1);have e3:(upd (upd (upd H l (.lst [])) x (.ins a.cN dx [("lines",V.ref l)])) t1 (.tup [.int 0,.int 0])) x=some (.ins a.cN dx [("lines",V.ref l)]):=by rw[aq (ak (by exact ae) ht1)];exact ae
 have K4:=m1 (.ins a.cN dx [("lines",V.ref l),("stands",V.ref t1)]) _ _ e3;have K5:=K4.trans (af.new (M:=[x]) (o:=.tup [.int 0,.int 0]) ht2);have e5:=(af.new (M:=[]) (o:=.tup [.int 0,.int 0]) ht2).at (ae (H:=(upd (upd (upd H l (.lst [])) x (.ins a.cN dx [("lines",V.ref l)])) t1 (.tup [.int 0,.int 0]))) (a:=x) (o:=.ins a.cN dx [("lines",V.ref l),("stands",V.ref t1)]));have K6:=m1 (.ins a.cN dx [("lines",V.ref l),("stands",V.ref t1),("line_begin",V.ref t2)]) _ _ e5;refine k l _ (K3.trans (K5.trans K6)) hl ⟨⟨dx,t1,t2,ae,?_,?_⟩,?_,.nil,by simp,by simp,by simp,le_refl 0⟩
 .exact SqT.of (K6.tp _ _ (K5.tp _ _ ae))
 .exact SqT.of (K6.tp _ _ ae)
 .have hl1:(upd (upd H l (.lst [])) x (.ins a.cN dx [("lines",V.ref l)])) l=some (.lst []):=by rw[aq nxl.symm];exact ae
  exact(K5.trans K6).one ((af.new (M:=[]) ht1).at hl1) nxl.symm
theorem Tf(eJ:T.sN):T.Kh:=by
 refine T.B1.bz RA fun H Q E hr h=>?_
 obtain⟨pn,l,p,rs,ls,st,bg,z,n,rfl,hP,hp,hn,k⟩:=h;refine⟨_,(aa (aK (iA F.plainAttrs_list F.slot_list_append F.type_list_append eN (ax (pv 0)) (pa1 (cW (pa1 (pcD eJ hr T.jM cp (pa1 (pv 1))))))))
   (aa (aX (pv 0) (pv 1))
   (ah (aX (pv 0) (pv 1))))),?_⟩
 dsimp only[bq];obtain⟨dx,s,b,hob,hst,hbg⟩:=hP.ob;refine⟨_,rfl,pn,a.cN,dx,_,_,rfl,hob,T.dk,T.d4,iz,.inl ⟨rfl,_,SqL.of hP.lst⟩,_,rfl,p,z,rfl,hp,fun t H1 kp1 ht0 ht1=>?_⟩;refine⟨sl1,fun r hr=>?_⟩;have hP1:=hP.eC kp1;have hl2:upd H1 r (.lst [.ref t]) l=some (.lst (rs.map V.ref)):=(af.new (M:=[]) hr).at hP1.lst;refine⟨l,_,_,rfl,rfl,hl2,(by rw[length_map,hP.li.length];have:=hP.few;rw[sizeLine_eq];omega),?_⟩;obtain⟨hP3,k3⟩:=hP1.line (r:=r) (t:=t) (q:=Sg35.wh z) hr (SqT.of ht1);obtain⟨n1,n2⟩:=hP.apart;have k13:af [l] H1 (upd (upd H1 r (.lst [V.ref t])) l (.lst (rs.map V.ref++[V.ref r]))):=(af.new hr).trans (af.set (by simp) (by rw[hl2];exact trivial));have tP:=k13.one (kp1.at hob) n1;have hp3:PtT K (upd (upd H1 r (.lst [V.ref t])) l (.lst (rs.map V.ref++[V.ref r]))) p z:=(hp.keep kp1).keep k13;generalize upd (upd H1 r (.lst [V.ref t])) l (.lst (rs.map V.ref++[V.ref r]))=H3 at *;refine⟨_,rfl,_,rfl,pn,a.cN,dx,_,rfl,tP,T.dk,T.dG,lt3,_,rfl,_,rfl,pn,a.cN,dx,_,rfl,ae,T.dk,T.fe,(by rw[mB];show 3<1000;decide),?_⟩;show Q _ (upd (upd H3 pn _) pn _);rw[cf,mB,HE];have k4:af [pn] H3 (upd H3 pn (.ins a.cN dx (pnF (.ref l) (.ref p) (.ref p)))):=af.set (by simp) (by rw[tP];exact trivial);obtain⟨m1,m2⟩:=hP3.apart;refine k (rs++[r]) _ ((kp1.up.trans k3).trans (k4.mono fun x hx=>by simp at hx;simp[hx])) (fun x hx=>?_) ⟨⟨dx,p,p,ae,hp3.keep k4,hp3.keep k4⟩,k4.one hP3.lst m1.symm,hP3.li.keep k4 (fun x hx=>?_),hP3.nd,hP3.nl,hP3.few,hP3.tot⟩
 .rcases mem_append.mp hx with hx|hx
  .exact .inl hx
  .rw[mem_singleton.mp hx];exact .inr (kp1.bP hr)
 .simp only[mem_singleton];rintro rfl;exact m2 hx
theorem Tg(eJ:T.sN):T.QD:=by
 refine T.B2.bz RB fun H Q E hr h=>?_
 obtain⟨pn,l,p,rs,D,e,st,bg,z,n,rfl,hP,hp,hn,k⟩:=h;refine⟨_,(aa (aK (iA F.plainAttrs_list F.slot_list_append F.type_list_append eN (az bh (ax (pv 0)) (ju fZ ag)) (pa1 (pcD eJ hr T.jM cp (pa1 (pv 1))))))
   (ah (aX (pv 0) (pv 1)))),?_⟩
 dsimp only[bq];obtain⟨dx,s,b,hob,hst,hbg⟩:=hP.ob;obtain⟨rs0,r,rfl,h0,ts,hr,hts⟩:=hP.li.split;refine⟨_,rfl,pn,a.cN,dx,_,_,rfl,hob,T.dk,T.d4,iz,_,rfl,_,_,_,V.ref r,rfl,rfl,SqL.of hP.lst,(by rw[map_append];exact gP _ _),.inl ⟨rfl,_,SqL.of hr⟩,_,rfl,p,z,rfl,hp,fun t H1 kp1 ht0 ht1=>?_⟩;have hP1:=hP.eC kp1;have hlen:ts.length<=n:=by
  rw[hts.length];exact hP.short e (by simp)
 refine⟨r,_,_,rfl,rfl,kp1.at hr,(by rw[length_map,sizeLine_eq];omega),?_⟩;obtain⟨hP3,k3⟩:=hP1.more (t:=t) (q:=Sg35.wh z) (h0.keep kp1 fun x _=>by simp) (kp1.at hr) (hts.keep kp1) (SqT.of ht1);have kr:af [r] H1 (upd H1 r (.lst (ts.map V.ref++[V.ref t]))):=af.set (by simp) (by rw[kp1.at hr];exact trivial);obtain⟨n1,n2⟩:=hP.apart;have npr:pn≠r:=fun z=>n2 (by rw[z];simp)
 have tP:=kr.one (kp1.at hob) npr;have hp3:=(hp.keep kp1).keep kr;have MV:=(hbg.keep kp1).keep kr;generalize upd H1 r (.lst (ts.map V.ref++[V.ref t]))=H3 at *;refine⟨_,rfl,_,rfl,pn,a.cN,dx,_,rfl,tP,T.dk,T.dG,lt3,?_⟩;show Q _ (upd H3 pn _);rw[mB];obtain⟨hP4,k4⟩:=hP3.Ob tP MV hp3;exact k (rs0++[r]) _ ((kp1.up.trans k3).trans k4) (fun x hx=>.inl hx) hP4
theorem cZ.last{H:Hp}:∀{ts:List Addr}{ps:List Pt}{z:Pt},cZ K H ts (ps++[z])->∃ts0 tz,ts=ts0++[tz]/\PtT K H tz z
 |_,[],z,h=>by
  cases h with
  |cons x y=>cases y;exact⟨[],_,rfl,x⟩
 |_,p::ps,z,h=>by
  cases h with
  |cons x y=>
   obtain⟨ts0,tz,e,hz⟩:=cZ.last (ps:=ps) y;exact⟨_::ts0,tz,by rw[e];rfl,hz⟩
theorem FE(cs:List Pt):(fB cs).length=16:=by unfold fB;simp
theorem Cd{cs:List Pt}{i:Nat}(hi:i<16):(fB cs).take (i+1)=(fB cs).take i++[weigh cs (fP ((i:Int)+1) cs.length)]:=by
 rw[take_succ];congr 1
 unfold fB;rw[List.getElem?_map,List.getElem?_range hi];rfl
theorem PMv.mono{H:Hp}{pn l:Addr}{rs:List Addr}{ls:Lines}{st bg:Pt}{n m:Nat}{R:Hp->Prop}(h:PMv a K H pn l rs ls st bg m R)(hm:n<=m):PMv a K H pn l rs ls st bg n R:=
 fun rs' H' k d hP=>h rs' H' k d (hP.mono hm)
theorem S8(Kn:T.PB)(Ls:T.QB):T.Qy:=by
 refine T.B0.bz A4 fun H Q E hr h=>?_
 obtain⟨pn,l,p,rs,ts,D,e,st,bg,z,told,n,rfl,hP,hp,hts,htl,hnr,hns,hn,hpf,k⟩:=h;refine⟨_,(aa (aw 2 A4.nd (ao HV (cW (pa1 (ax (pv 0)))) (pv 1)))
   (aa (fH (nZ (by rfl) T.fq (ai ag (pa1 (ao aQ (aB T.jA) ag)))) (bG 3 A4.nd) (ah (aK (iA F.plainAttrs_list F.slot_list_append F.type_list_append eN (az bh (ax (pv 0)) (ju fZ ag)) (pa1 (pcD Kn hr T.Nt ay (ai (pv 2) (pa1 (pcD Ls hr T.N7 ay (ai (pv 3) (pa1 (aL aP T.cC (pa1 (pv 2))))))))))))))
   (ah (aX (pv 0) (az bh (pv 1) (ju fZ ag)))))),?_⟩
 dsimp only[bq];obtain⟨dx,s,b,hob,hst,hbg⟩:=hP.ob;have Xy:ts.length<=3:=by
  rw[hts.length,length_append];simp only[length_cons,length_nil];omega
 refine⟨_,rfl,pn,a.cN,dx,_,_,rfl,hob,T.dk,T.dG,qH,sl1,fun q hq=>⟨_,rfl,q,p,_,_,rfl,rfl,ae,(af.new (M:=[]) hq).at hp,(by rw[length_map,sizeLine_eq];simp only[length_cons,length_nil];omega),fun cr hcr=>?_⟩⟩;have k2:af [] H (upd (upd H q (.lst [V.ref s])) cr (.lst ([V.ref s]++ts.map V.ref))):=(af.new hq).trans (af.new hcr);have Fp:H cr=none:=(af.new (M:=[]) hq).bP hcr;have Ym:(upd (upd H q (.lst [V.ref s])) cr (.lst ([V.ref s]++ts.map V.ref))) cr=some (.lst ((s::ts).map V.ref)):=ae;generalize upd (upd H q (.lst [V.ref s])) cr (.lst ([V.ref s]++ts.map V.ref))=H2 at *;have hcl:((s::ts).map V.ref).length=(st::(told++[z])).length:=by
  rw[length_map,length_cons,length_cons,hts.length]
 have hcf:cr∉pn::l::rs:=by
  intro hm;rcases mem_cons.mp hm with rfl|hm
  .rw[hob]at Fp;cases Fp
  .rcases mem_cons.mp hm with rfl|hm
   .rw[hP.lst]at Fp;cases Fp
   .obtain⟨_,e⟩:=hP.li.mem hm;rw[e]at Fp;cases Fp
 refine⟨_,_,rfl,rfl,1,17,rfl,(by decide),iJ (lo:=1) (n:=16) (fun i Y H'=>∃kk,Y=[some (.ref pn),some (.ref p),some (.ref cr),kk]/\af (pn::l::rs) H H'/\bu a K H' pn l rs (D++[e++(fB (st::(told++[z]))).take i]) st bg (n+i)/\
  H' cr=some (.lst ((s::ts).map V.ref))/\H' p=some (.lst (ts.map V.ref))) ⟨none,rfl,k2.up,by simpa using hP.eC k2,Ym,k2.at hp⟩ ?_ ?_⟩
 .rintro i Y H3 hi ⟨kk,rfl,kp3,hP3,MS,hp3⟩;obtain⟨dx3,s3,b3,tP,XE,MV⟩:=hP3.ob;obtain⟨rs0,r,er,h0,ts3,hr3,VW⟩:=hP3.li.split;have hPs:cZ K H3 (s::ts) (st::(told++[z])):=.cons (hst.keep kp3) (hts.keep kp3);refine⟨_,rfl,pn,a.cN,dx3,_,_,rfl,tP,T.dk,T.d4,iz,_,rfl,_,_,_,V.ref r,rfl,rfl,SqL.of hP3.lst,(by rw[er,map_append];exact gP _ _),.inl ⟨rfl,_,SqL.of hr3⟩,_,rfl,_,rfl,_,rfl,cr,_,rfl,.inl (SqL.of MS),
   i,((s::ts).map V.ref).length,rfl,hi,fun t H4 kp4 hw=>?_⟩
  rw[hcl]at hw;refine⟨cr,t,s::ts,st::(told++[z]),_,rfl,kp4.at MS,hPs.keep kp4,?_,hw,?_,?_,fun u H5 kp5 hu=>?_⟩
  .intro y hy;rcases mem_cons.mp hy with rfl|hy
   .exact hns
   .exact hnr y hy
  .rw[length_cons,length_append];simp only[length_cons,length_nil];omega
  .unfold fP;rw[length_cons,length_append];simp only[length_cons,length_nil];split
   .simp only[length_cons,length_nil];omega
   .simp only[length_cons,length_nil];omega
  have k35:=kp4.trans kp5;have hlen:ts3.length<=n+i:=by
   rw[VW.length];exact hP3.short _ (by simp)
  refine⟨r,_,_,rfl,rfl,k35.at hr3,(by rw[length_map,sizeLine_eq];omega),?_⟩;subst er;obtain⟨hP6,k6⟩:=(hP3.eC k35).more (t:=u) (q:=weigh (st::(told++[z])) (fP ((i:Int)+1) (st::(told++[z])).length)) (h0.keep k35 fun x _=>by simp) (k35.at hr3) (VW.keep k35) hu;refine⟨_,rfl,kp3.trans (k35.up.trans k6),?_,k6.kp _ _ (k35.at MS) hcf,k6.kp _ _ (k35.at hp3) hpf⟩;rw[Cd hi,<-append_assoc];exact hP6
 .rintro Y H3 ⟨kk,rfl,kp3,hP3,MS,hp3⟩;obtain⟨dx3,s3,b3,tP,XE,MV⟩:=hP3.ob;obtain⟨ts0,tz,ets,htz⟩:=cZ.last hts;refine⟨_,rfl,_,rfl,_,_,_,V.ref tz,rfl,rfl,SqL.of hp3,(by rw[ets,map_append];exact gP _ _),_,rfl,pn,a.cN,dx3,_,rfl,tP,T.dk,T.dG,lt3,?_⟩;show Q _ (upd H3 pn _);rw[mB];obtain⟨hP4,k4⟩:=hP3.Ob tP MV (htz.keep kp3);rw[take_of_length_le (by rw[FE];exact le_refl _)]at hP4;exact k rs _ (kp3.trans k4) (fun x hx=>.inl hx) hP4
theorem F9{st:Pt}{rel:Bool}{c:Nat}{row:List Int}(h:row.length=arity (aC c))(h0:arity (aC c)≠0):
  (toldOf st rel (aC c) row).length=if aC c=81 then 2 else if aC c=67 then 3 else 1:=by
 generalize aC c=g at *;unfold toldOf;dsimp only;unfold arity at h h0;by_cases g1:g=77\/g=76
 .rw[if_pos g1]at h;rw[if_neg (show ¬g=72 by omega),if_neg (show ¬g=86 by omega),if_neg (show ¬g=81 by omega),if_neg (show ¬g=67 by omega)];exact gA (n:=1) h
 .rw[if_neg g1]at h h0;by_cases g2:g=72\/g=86
  .rcases g2 with rfl|rfl<;>rfl
  .rw[if_neg g2]at h h0;rw[if_neg (show ¬g=72 by omega),if_neg (show ¬g=86 by omega)];by_cases g3:g=81
   .rw[if_pos g3]at h ⊢;exact gA (n:=2) h
   .rw[if_neg g3]at h h0 ⊢;by_cases g4:g=67
    .rw[if_pos g4]at h ⊢;exact gA (n:=3) h
    .rw[if_neg g4]at h0;exact absurd rfl h0
theorem ya{c:Nat}(h:aV c=true)(h90:aC c≠90):arity (aC c)≠0:=by
 unfold aV at h;rw[decide_eq_false h90,Bool.false_or,Bool.and_eq_true,decide_eq_true_eq]at h;exact h.2
theorem CY{I:Type}{l:List I}(h:l≠[]):∃D e,l=D++[e]:=⟨l.dropLast,l.getLast h,(List.dropLast_concat_getLast h).symm⟩
theorem UC(n k:Nat):decide (V.int (n:Int)=V.int (k:Int))=decide (n=k):=by
 rw[Bool.eq_iff_iff,decide_eq_true_eq,decide_eq_true_eq];constructor
 .intro z;injection z with z;omega
 .intro z;rw[z]
theorem Sy(Lb:T.Ql)(Lc:T.Qm)(uW:T.Kh)(Lv:T.QD)(Lp:T.Qy):T.P7:=by
 refine T.NL.fn.bz A2 fun H Q E hr h=>?_
 obtain⟨pn,l,p,rs,ls,st,bg,n,x,c,row,cD,rfl,hP,hL,h90,d7,har,Yu,Ys,hns,hn,k1,k2⟩:=h;refine⟨_,(aa (aw 4 A2.nd (pcD Lb hr T.NU ay (ai (ax (pv 0)) (ai (pv 1) (pa1 (pv 2))))))
   (aa (fH (kM (pv 4)) (bG 5 A2.nd) (ah (aK (pcD Lc hr T.NV ay (pa1 (pv 5))))))
   (ah (aR (cV (pv 3)) (ah (aK (aM (pv 0) T.dk T.oa uW hr T.DJ ay (pa1 (az bh (pv 4) ag))))) (ah (aR (aF dr (aL aP T.cC (pa1 (pv 4))) ag) (ah (aK (aM (pv 0) T.dk T.rk Lv hr T.JX ay (pa1 (az bh (pv 4) ag))))) (ah (aK (aM (pv 0) T.dk T.rj Lp hr T.JW ay (pa1 (pv 4))))))))))),?_⟩
 dsimp only[bq];obtain⟨dx,s,b,hob,hst,hbg⟩:=hP.ob;refine⟨_,rfl,pn,a.cN,dx,_,_,rfl,hob,T.dk,T.dG,qH,_,rfl,_,rfl,s,p,st,_,c,row,rfl,hst,hL,h90,d7,har,fun t ts H1 kp1 ht0 ht1 hts=>?_⟩;have htl:=F9 (st:=st) (rel:=decide (97<=c)) har (ya hL.2 h90);generalize hT:toldOf st (decide (97<=c)) (aC c) row=told at *;have hP1:=hP.eC kp1;have htf:t∉pn::l::rs:=by
  intro hm;rcases mem_cons.mp hm with rfl|hm
  .rw[hob]at ht0;cases ht0
  .rcases mem_cons.mp hm with rfl|hm
   .rw[hP.lst]at ht0;cases ht0
   .obtain⟨_,e⟩:=hP.li.mem hm;rw[e]at ht0;cases ht0
 refine⟨_,rfl,t,rfl,⟨_,SqL.of ht1⟩,mX (xs:=ts.map V.ref) (fun i Y H'=>∃pl,Y=[some (.ref pn),some (.str x),some (.ref p),some (.bl cD),some (.ref t),pl]/\H'=H1/\∀(j:Nat)(y:Pt),j<i->told[j]?=some y->eB y=true) ⟨none,rfl,rfl,fun j y hj=>by omega⟩ (fun i Y H' _ hq=>by obtain⟨_,_,rfl,_⟩:=hq;exact SqL.of ht1) ?_ ?_⟩
 .rintro i y Y H' hi ⟨pl,rfl,rfl,yK⟩;rw[List.getElem?_map]at hi;obtain⟨ty,hty,rfl⟩:=map_eq_some_iff.mp hi;have hlt:i<told.length:=by
   rw[<-hts.length];exact(List.getElem?_eq_some_iff.mp hty).1
  obtain⟨y,hy⟩:∃y,told[i]?=some y:=⟨_,List.getElem?_eq_getElem hlt⟩;obtain⟨ty',VV,hpt⟩:=hts.get hy;rw[hty]at VV;cases VV;refine⟨_,rfl,ty,y,rfl,hpt,fun hf=>k1 ?_,fun hok=>⟨_,rfl,rfl,fun j u hj hu=>?_⟩⟩
  .rw[all_eq_false];exact⟨y,mem_of_getElem? hy,by rw[hf];exact Bool.false_ne_true⟩
  .by_cases hji:j=i
   .subst hji;rw[hy]at hu;cases hu;exact hok
   .exact yK j u (by omega) hu
 rintro Y H' ⟨pl,rfl,rfl,yK⟩;have kW:told.all eB=true:=by
  rw[all_eq_true];intro y hy;obtain⟨j,hj⟩:=mem_iff_getElem?.mp hy;refine yK j y ?_ hj;rw[length_map,hts.length];exact(List.getElem?_eq_some_iff.mp hj).1
 obtain⟨dx1,s1,b1,Uh,_,_⟩:=hP1.ob;have one:told.length=1->∃z,told=[z]:=fun h=>by
  match told,h with
  |[z],_=>exact⟨z,rfl⟩
 refine⟨_,rfl,_,rfl,?_⟩;cases cD with
 |true=>
  have h77:=Yu rfl;rw[if_neg (by rw[h77];decide),if_neg (by rw[h77];decide)]at htl;obtain⟨z,rfl⟩:=one htl;obtain⟨t0,T5,hpt⟩:=hts.get (i:=0) rfl;refine a9 ⟨_,rfl,pn,dx1,_,rfl,Uh,vV (by decide +kernel) (by decide +kernel) (by decide +kernel),_,rfl,_,_,_,V.ref t0,rfl,rfl,SqL.of ht1,dm (j:=0) (by rw[List.getElem?_map,T5];rfl),pn,l,t0,rs,ls,st,bg,z,n,rfl,hP1,hpt,hn,?_⟩;have kk:=k2 kW _ _ _ rfl;exact fun rs' H2 kp2 d hP2=>kk rs' H2 (kp1.up.trans kp2) (fun x hx=>(d x hx).imp id fun h=>kp1.bP h) (hP2.mono (by omega))
 |false=>
  obtain⟨D,e,rfl⟩:=CY (Ys rfl);refine aT ⟨_,rfl,t,_,rfl,.inl (SqL.of ht1),rfl,decide (told.length=1),?_,?_⟩
  .have:=UC told.length 1;rw[<-this,<-hts.length];show V.bl (decide (V.int ((ts.map V.ref).length:Int)=_))=_;rw[length_map];rfl
  by_cases h1:told.length=1
  .rw[decide_eq_true h1];obtain⟨z,rfl⟩:=one h1;obtain⟨t0,T5,hpt⟩:=hts.get (i:=0) rfl;refine a9 ⟨_,rfl,pn,dx1,_,rfl,Uh,vV (by decide +kernel) (by decide +kernel) (by decide +kernel),_,rfl,_,_,_,V.ref t0,rfl,rfl,SqL.of ht1,dm (j:=0) (by rw[List.getElem?_map,T5];rfl),pn,l,t0,rs,D,e,st,bg,z,n,rfl,hP1,hpt,hn,?_⟩;have kk:=k2 kW (D++[e++[Sg35.wh z]]) z bg (by unfold gF;rw[if_neg Bool.false_ne_true,if_pos (show List.length [z]=1 from rfl),Sg35.cB,bQ];rfl);exact fun rs' H2 kp2 d hP2=>kk rs' H2 (kp1.up.trans kp2) (fun x hx=>(d x hx).imp id fun h=>kp1.bP h) (hP2.mono (by omega))
  .rw[decide_eq_false h1];have hne:told≠[]:=by
    rintro rfl;split at htl
    .cases htl
    .split at htl<;>cases htl
   obtain⟨CF,z,rfl⟩:=CY hne;have hl0:CF.length=1\/CF.length=2:=by
    rw[length_append,length_cons,length_nil]at htl h1;split at htl
    .omega
    .split at htl<;>omega
   refine aT ⟨_,rfl,pn,dx1,_,rfl,Uh,vV (by decide +kernel) (by decide +kernel) (by decide +kernel),_,rfl,pn,l,t,rs,ts,D,e,st,bg,z,CF,n,rfl,hP1,ht1,hts,hl0,fun y hy=>all_eq_true.mp kW y hy,hns,hn,htf,?_⟩;have kk:=k2 kW (D++[e++fB (st::(CF++[z]))]) z bg (by unfold gF;rw[if_neg Bool.false_ne_true,if_neg h1,Sg35.cB,bQ,bQ]);exact fun rs' H2 kp2 d hP2=>kk rs' H2 (kp1.up.trans kp2) (fun x hx=>(d x hx).imp id fun h=>kp1.bP h) hP2
theorem FD{nums:List Int}{p q:Nat}(h:p<=q)(hq:q<=nums.length):m8 (nums.map V.int) (some (p:Int)) (some (q:Int))=((nums.drop p).take (q-p)).map V.int:=by
 unfold m8;rw[HT.kJ,HT.kJ,length_map,min_eq_left hq,min_eq_left (le_trans h hq),map_take,map_drop]
theorem Ah{g:Nat}(h:arity g≠0):g=77\/g=76\/g=72\/g=86\/g=81\/g=67:=by
 unfold arity at h;split at h
 .lia
 .split at h
  .lia
  .split at h
   .lia
   .split at h
    .lia
    .exact absurd rfl h
theorem L3{g:Nat}(h:arity g≠0):dJ (([("M",2),("L",2),("H",1),("V",1),("Q",4),("C",6)]:List (Str×Int)).map fun p=>((Sum.inr p.1:Key),V.int p.2)) (Sum.inr (sg [g]))=some (.int (arity g:Int)):=by
 rcases Ah h with rfl|rfl|rfl|rfl|rfl|rfl<;>decide +kernel
theorem J0(g:Nat):arity g<=6:=by
 unfold arity;split
 .decide
 .split
  .decide
  .split
   .decide
   .split<;>decide
theorem Ho(ls:Lines)(st bg:Pt)(told:List Pt)(b:Bool):(gF ls st bg told b).1≠[]:=by
 unfold gF;split
 .simp
 .split<;>simp
theorem SQ(hw:w.params=a.prm)(KN:T.P7):T.Qk:=by
 refine T.NT.fn.bz vI fun H Q E hr h=>?_
 obtain⟨pn,l,p,rs,ls,st,bg,n,pp,x,c,nums,rfl,hP,hS,⟨rfl,hpl⟩,h90,tQ,hls,hsz,hpf,k1,k2⟩:=h;refine⟨_,(aa (aw 3 vI.nd (Vn (by rfl) T.se hw T.BC (i7 PySem.F.plainAttrs_str PySem.F.slot_str_upper PySem.F.type_str_upper j7 (pv 1)) (fun _ _=>rfl)))
   (aa (aR (oQ (aF dr (aL aP T.cC (pa1 (pv 2))) ag) (lO (aF jv (ao qQ (aL aP T.cC (pa1 (pv 2))) (pv 3)) ag))).pt (ah (bo T.aJ (by rfl))) aI)
   (ah (fH (nY (by rfl) T.fq (ai ag (ai (aL aP T.cC (pa1 (pv 2))) (pa1 (pv 3))))) (bG 4 vI.nd) (aa (aw 5 vI.nd (HQ (kN dr (pv 4) ag) (Bi (kN dr (i7 PySem.F.plainAttrs_str PySem.F.slot_str_upper PySem.F.type_str_upper j7 (pv 1)) aN))))
   (ah (aK (pcD KN hr T.NL ay (ai (pv 0) (ai (pv 1) (ai (gH CZ (pv 2) (eY (pv 4)) (eY (ao aQ (pv 4) (pv 3)))) (pa1 (pv 5))))))))))))),?_⟩
 dsimp only[bq];have har:=ya hpl h90;generalize hg:aC c=g at *;generalize V0:decide (97<=c)=rel at *;have Pr:0<arity g:=Nat.pos_of_ne_zero har;have ha6:=J0 g;have l1:(sg [c]).length<=5592405:=by rw[bT];simp
 refine⟨_,rfl,rfl,_,rfl,rfl,l1,_,(arity g:Int),rfl,(by rw[upS hpl,hg];exact L3 har),?_⟩;refine⟨_,rfl,p,_,rfl,.inl (SqL.of tQ),rfl,decide (nums.length=0),congrArg V.bl (by rw[length_map];exact UC _ 0),?_⟩;by_cases h0:nums.length=0
 .exact dT h0 (a9 (k1 (.inl (length_eq_zero_iff.mp h0)) _))
 rw[decide_eq_false h0];have hne:nums≠[]:=fun z=>h0 (by rw[z];rfl)
 refine aT ⟨_,rfl,p,_,rfl,.inl (SqL.of tQ),_,rfl,_,_,rfl,rfl,(by show(0:Int)<(arity g:Int);lia),rfl,!decide (nums.length%arity g=0),congrArg (fun z=>V.bl (!z)) (by
  rw[length_map,Bool.eq_iff_iff,decide_eq_true_eq,decide_eq_true_eq];show V.int ((nums.length:Int)%(arity g:Int))=V.int 0↔_;rw[<-Int.natCast_emod];constructor
  .intro z;injection z with z;lia
  .intro z;rw[z];rfl),?_⟩
 by_cases Ui:nums.length%arity g=0
 case neg=>
  rw[decide_eq_false Ui];exact a9 (k1 (.inr (Sg35.Hi _ _ _ _ _ _ har (le_refl _) Ui (lt_succ_self _))) _)
 rw[decide_eq_true Ui];obtain⟨m,hm⟩:∃m,nums.length=arity g*m:=⟨nums.length/arity g,by have:=Nat.div_add_mod nums.length (arity g);lia⟩;have YY:m<=nums.length:=by rw[hm];exact Nat.le_mul_of_pos_left m Pr
 refine aT ⟨_,rfl,p,_,rfl,.inl (SqL.of tQ),_,rfl,0,_,(arity g:Int),m,rfl,(by rw[length_map,hm];exact rgC Pr ha6 (by lia)),?_⟩;refine⟨fun i mm Y H'=>mm=m-i/\i<=m/\∃(rs':List Addr)(ls':Lines)(st' bg':Pt)(pp':Pen)(f b:Option V),Y=[some (.ref pn),some (.str (sg [c])),some (.ref p),some (.int (arity g:Int)),f,b]/\af (pn::l::rs) H H'/\(∀x∈rs',x∈rs\/H x=none)/\
  bu a K H' pn l rs' ls' st' bg' (n+16*i)/\Sim ls' st' bg' pp'/\LsI H' p nums/\(i≠0\/g≠77->ls'≠[])/\Pen.rows (nums.length+1) pp g rel nums=Pen.rows (nums.length+1-i) pp' (aZ g (decide (i=0)&&decide (g=77))) rel (nums.drop (arity g*i)),
  ⟨_,rfl,zero_le _,rs,ls,st,bg,pp,none,none,rfl,af.refl,fun x hx=>.inl hx,hP,hS,tQ,fun h=>hls (h.resolve_left fun z=>z rfl),?_⟩,?_⟩
 .have:aZ g (decide ((0:Nat)=0)&&decide (g=77))=g:=by
   unfold aZ;by_cases h7:g=77
   .rw[if_pos h7,decide_eq_true h7];exact h7.symm
   .rw[if_neg h7]
  rw[this,mul_zero,List.drop_zero,sub_zero]
 rintro i mm Y H1 ⟨rfl,hi,rs',ls',st',bg',pp',f,b,rfl,kp1,hfr,hP1,hS1,Pp,V6,rL⟩;by_cases hlt:i<m
 case neg=>
  have:i=m:=by lia
  subst this;refine .inl ⟨le_refl _,?_⟩;rw[<-hm,drop_length]at rL;obtain⟨fu,hfu⟩:∃fu,nums.length+1-i=fu+1:=⟨nums.length-i,by lia⟩;rw[hfu,Sg35.Hj]at rL;have hi0:i≠0:=by rintro rfl;rw[mul_zero]at hm;exact h0 hm
  refine k2 pp' ls' st' bg' hne rL hS1 (V6 (.inl hi0)) rs' H1 kp1 hfr (hP1.mono ?_)
  lia
 have hmul:arity g*(i+1)<=nums.length:=by rw[hm];exact Nat.mul_le_mul_left _ hlt
 have IW:arity g*(i+1)=arity g*i+arity g:=Nat.mul_succ _ _;refine .inr ⟨hlt,fun Y' H'=>∃(rs':List Addr)(ls':Lines)(st' bg':Pt)(pp':Pen)(f b:Option V),Y'=[some (.ref pn),some (.str (sg [c])),some (.ref p),some (.int (arity g:Int)),f,b]/\af (pn::l::rs) H H'/\(∀x∈rs',x∈rs\/H x=none)/\
  bu a K H' pn l rs' ls' st' bg' (n+16*(i+1))/\Sim ls' st' bg' pp'/\LsI H' p nums/\ls'≠[]/\Pen.rows (nums.length+1) pp g rel nums=Pen.rows (nums.length+1-(i+1)) pp' (aZ g false) rel (nums.drop (arity g*(i+1))),
  fun Y' H' ⟨rs',ls',st',bg',pp',f,b,e1,e2,e3,e4,e5,e6,e7,e8⟩=>⟨m-(i+1),by lia,rfl,hlt,rs',ls',st',bg',pp',f,b,e1,e2,e3,e4,e5,e6,fun _=>e7,by rw[e8,decide_eq_false (Nat.succ_ne_zero i)];rfl⟩,?_⟩
 rintro y H' ⟨rfl,rfl⟩;have Jl:(0+(i:Int)*(arity g:Int))=((arity g*i:Nat):Int):=by rw[natCast_mul,Int.mul_comm];lia
 have Yt:decide (V.int (0+(i:Int)*(arity g:Int))=V.int 0)=decide (i=0):=by
  rw[Bool.eq_iff_iff,decide_eq_true_eq,decide_eq_true_eq,Jl];constructor
  .intro z;injection z with z
   have:arity g*i=0:=by lia
   rcases Nat.mul_eq_zero.mp this with q|q
   .exact absurd q har
   .exact q
  .intro z;rw[z];rfl
 generalize hbv:(decide (i=0)&&decide (g=77))=bv at *;have fin:xy (lj a K) [] E (cb (cU 0) (cb (cU 1) (cb (tSl (Ve K) (cU 2) (Gm (cU 4)) (Gm (tOp (rI0 fun i j=>V.int (i+j)) (cU 4) (cU 3)))) (cb (cU 5) fE)))) [some (.ref pn),some (.str (sg [c])),some (.ref p),some (.int (arity g:Int)),some (.int (0+(i:Int)*(arity g:Int))),some (.bl bv)] H' (fun(_:V) (H':Hp)=>∃(rs':List Addr)(ls':Lines)(st' bg':Pt)(pp':Pen)(f b:Option V),([some (.ref pn),some (.str (sg [c])),some (.ref p),some (.int (arity g:Int)),some (.int (0+(i:Int)*(arity g:Int))),some (.bl bv)]:L2.St)=[some (.ref pn),some (.str (sg [c])),some (.ref p),some (.int (arity g:Int)),f,b]/\af (pn::l::rs) H H'/\(∀x∈rs',x∈rs\/H x=none)/\bu a K H' pn l rs' ls' st' bg' (n+16*(i+1))/\Sim ls' st' bg' pp'/\LsI H' p nums/\ls'≠[]/\Pen.rows (nums.length+1) pp g rel nums=Pen.rows (nums.length+1-(i+1)) pp' (aZ g false) rel (nums.drop (arity g*(i+1)))):=by
  refine⟨_,rfl,_,rfl,_,rfl,_,rfl,_,rfl,_,rfl,_,rfl,_,_,rfl,rfl,_,rfl,p,_,rfl,SqL.of Pp,fun t ht=>⟨_,rfl,?_⟩⟩;have YE:m8 (nums.map V.int) (some (0+(i:Int)*(arity g:Int))) (some (0+(i:Int)*(arity g:Int)+(arity g:Int)))=((nums.drop (arity g*i)).take (arity g)).map V.int:=by
   rw[Jl,show(((arity g*i:Nat):Int)+(arity g:Int))=((arity g*(i+1):Nat):Int) by rw[IW];lia,FD (by lia) hmul,IW,Nat.add_sub_cancel_left]
  rw[YE];generalize d7:(nums.drop (arity g*i)).take (arity g)=row;have hrl:row.length=arity g:=by rw[<-d7,length_take,length_drop];lia
  have kt:af [] H' (upd H' t (.lst (row.map V.int))):=af.new ht;have XG:st'=(pp'.x,pp'.y):=hS1.st;have hb7:bv=true->g=77:=fun z=>by
   rw[<-hbv,Bool.and_eq_true,decide_eq_true_eq,decide_eq_true_eq]at z;exact z.2
  have hbl:bv=false->ls'≠[]:=fun z=>V6 (by
   rw[<-hbv,Bool.and_eq_false_iff,decide_eq_false_iff_not,decide_eq_false_iff_not]at z
   exact z)
  obtain⟨s1,s2⟩:=Sg35.Hl hS1 har hb7 hbl (rel:=rel) hrl;have hdl:nums.drop (arity g*i)≠[]:=by
   intro z;have:=congrArg List.length z;rw[length_drop,length_nil]at this
   lia
  obtain⟨fu,hfu⟩:∃fu,nums.length+1-i=fu+1:=⟨nums.length-i,by lia⟩;have hr1:=Sg35.xV (f:=fu) (p:=pp') (c:=aZ g bv) (rel:=rel) hdl (by rw[Sg35.uL,length_drop];lia);rw[Sg35.uL,d7,Sg35.yD,drop_drop,<-IW]at hr1;rw[hfu,hr1]at rL;refine⟨pn,l,t,rs',ls',st',bg',n+16*i,_,c,row,bv,rfl,hP1.eC kt,⟨rfl,hpl⟩,by rw[hg];exact h90,ae,by rw[hg];exact hrl,fun z=>by rw[hg];exact hb7 z,hbl,?_,by lia,?_,?_⟩
  .rw[XG];unfold eB;rw[hS1.nr.1,hS1.nr.2];rfl
  .rw[V0,hg];intro hf;refine k1 (.inr ?_);rw[rL,s1 hf];rfl
  .rw[V0,hg];intro hok ls2 st2 bg2 hdo rs2 H2 kp2 Ye hP2;obtain⟨pp2,XF,hS2⟩:=s2 hok;rw[hdo]at hS2;rw[XF]at rL;have Fi:=Ho ls' st' bg' (toldOf st' rel g row) bv;rw[hdo]at Fi;have k12:af (pn::l::rs) H H2:=af.grow (kp1.trans kt.up) kp2 fun x hx=>by
    rcases mem_cons.mp hx with rfl|hx
    .exact .inl (by simp)
    .rcases mem_cons.mp hx with rfl|hx
     .exact .inl (by simp)
     .exact(hfr x hx).imp (fun z=>by simp[z]) id
   have XT:p∉pn::l::rs':=fun z=>by
    rcases mem_cons.mp z with z|z
    .exact hpf (by rw[z];simp)
    .rcases mem_cons.mp z with z|z
     .exact hpf (by rw[z];simp)
     .rcases hfr p z with q|q
      .exact hpf (by simp[q])
      .rw[tQ]at q;cases q
   refine⟨rs2,ls2,st2,bg2,pp2,_,_,rfl,k12,fun x hx=>?_,(by rw[show n+16*(i+1)=n+16*i+16 by lia];exact hP2),hS2,kp2.kp _ _ (kt.at Pp) XT,Fi,?_⟩
   .rcases Ye x hx with q|q
    .exact hfr x q
    .have q1:=kt.bP q;by_cases hm:x∈rs
     .exact .inl hm
     .refine .inr (kp1.free q1 fun z=>?_);rcases mem_cons.mp z with rfl|z
      .obtain⟨_,_,_,e,_⟩:=hP1.ob;rw[q1]at e;cases e
      .rcases mem_cons.mp z with rfl|z
       .rw[hP1.lst]at q1;cases q1
       .exact hm z
   .rw[rL,show nums.length+1-(i+1)=fu by lia];rfl
 refine⟨_,rfl,rfl,decide (i=0),congrArg V.bl Yt,?_⟩;by_cases hi0:i=0
 .refine dT hi0 ⟨_,rfl,rfl,_,rfl,rfl,l1,rfl,?_⟩;rw[LB (d:=77) hpl (by decide +kernel),hg];have:decide (g=77)=bv:=by rw[<-hbv,decide_eq_true hi0,Bool.true_and]
  rw[this];exact fin
 .rw[decide_eq_false hi0];have:false=bv:=by rw[<-hbv,decide_eq_false hi0,Bool.false_and]
  refine aT ?_;rw[<-this]at fin;exact fin
theorem Ta(La:T.Qk)(uW:T.Kh):T.QA:=by
 refine T.N6.fn.bz Rz fun H Q E hr h=>?_
 obtain⟨pn,l,p,rs,ls,st,bg,n,pp,x,c,nums,rfl,hP,hS,hL,tQ,hls,hsz,hpf,k1,k2⟩:=h;refine⟨_,(ah (aR (aF jv (i7 PySem.F.plainAttrs_str PySem.F.slot_str_upper PySem.F.type_str_upper j7 (pv 1)) aN) (ah (aK (pcD La hr T.NT ay (ai (pv 0) (ai (pv 1) (pa1 (pv 2))))))) (ah (aR (aF dr (aL aP T.cC (pa1 (pv 2))) ag) (ah (aK (aM (pv 0) T.dk T.oa uW hr T.DJ ay (pa1 (ax (pv 0)))))) (ah (bo T.aJ (by rfl))))))),?_⟩;dsimp only[bq];obtain⟨rfl,hpl⟩:=id hL;have l1:(sg [c]).length<=5592405:=by rw[bT];simp
 unfold ke at k1 k2;refine⟨_,rfl,rfl,_,rfl,rfl,l1,rfl,!decide (aC c=90),congrArg (fun z=>V.bl (!z)) (LB hpl (by decide +kernel)),?_⟩;by_cases h90:aC c=90
 case neg=>
  rw[if_neg h90]at k1 k2;rw[decide_eq_false h90];refine a9 ⟨_,rfl,_,rfl,_,rfl,pn,l,p,rs,ls,st,bg,n,pp,_,c,nums,rfl,hP,hS,hL,h90,tQ,hls,by lia,hpf,fun h=>k1 ?_,fun pp' ls' st' bg' hne hr hS' Uj=>?_⟩
  .split
   .rfl
   .exact h.resolve_left (by assumption)
  .rw[if_neg hne]at k2;exact PMv.mono (k2 pp' ls' st' bg' hr hS' Uj) (by lia)
 rw[if_pos h90]at k1 k2;rw[decide_eq_true h90];refine aT ⟨_,rfl,p,_,rfl,.inl (SqL.of tQ),rfl,decide (nums.length=0),congrArg V.bl (by rw[length_map];exact UC _ 0),?_⟩;by_cases h0:nums=[]
 .rw[if_pos h0]at k2;rw[decide_eq_true (by rw[h0];rfl)];obtain⟨dx,s,b,hob,hst,hbg⟩:=hP.ob;refine a9 ⟨_,rfl,pn,dx,_,rfl,hob,vV (by decide +kernel) (by decide +kernel) (by decide +kernel),_,rfl,pn,a.cN,dx,_,_,rfl,hob,T.dk,T.fe,Et,pn,l,b,rs,ls,st,bg,bg,n,rfl,hP,hbg,by lia,?_⟩;have hz:=hS.z;rw[<-fT]at hz;exact PMv.mono (k2 _ _ _ _ rfl hz (by simp)) (by lia)
 .rw[if_neg h0]at k1;exact dF (fun z=>h0 (length_eq_zero_iff.mp z)) (k1 rfl _)
theorem D4{c:Nat}(h:aV c=true):Sg35.tr c=c:=by
 have h1:=qI h;have h2:65<=c:=by
  unfold aV letter at h;simp only[Bool.and_eq_true,Bool.or_eq_true,decide_eq_true_eq]at h
  lia
 exact(lJ (c:=c) (d:=c) (by lia) (by lia) (by lia) (by lia)).mpr rfl
theorem n6(b:B):pathOf b=match Sg35.skip b with
  |[]=>some []
  |c::_=>if c=77\/c=109 then(pen.ft b).map Pen.finish else none:=rfl
theorem wL{c:Nat}:isM c=true↔c=77\/c=109:=by unfold isM;simp
theorem Bk{b:B}(h:Sg35.skip b=[]):pathOf b=some []:=by rw[n6,h]
theorem HU{b r:B}{c:Nat}(h:Sg35.skip b=c::r)(hc:isM c=true):pathOf b=(pen.ft b).map Pen.finish:=by rw[n6,h];exact if_pos (wL.mp hc)
theorem Ew{b r:B}{c:Nat}(h:Sg35.skip b=c::r)(hc:isM c=false):pathOf b=none:=by
 rw[n6,h];exact if_neg fun z=>by rw[wL.mpr z]at hc;cases hc
theorem RdR.apart{H:Hp}{r pn l:Addr}{q:B}{rs:List Addr}{ls:Lines}{st bg:Pt}{n:Nat}(hR:RdR a H r q)(hP:bu a K H pn l rs ls st bg n):r∉pn::l::rs:=by
 obtain⟨b,dx,p,e,_⟩:=hR.ex;intro z;rcases mem_cons.mp z with rfl|z
 .obtain⟨_,_,_,e2,_⟩:=hP.ob;rw[e]at e2;injection e2 with e2
  injection e2 with _ _ e2
  have:=congrArg List.length e2;simp[rdF,pnF]at this
 .rcases mem_cons.mp z with rfl|z
  .rw[hP.lst]at e;cases e
  .obtain⟨_,e2⟩:=hP.li.mem z;rw[e]at e2;cases e2
theorem bu.wc{H:Hp}{r pn l:Addr}{q:B}{rs:List Addr}{ls:Lines}{st bg:Pt}{n:Nat}(hR:RdR a H r q)(hP:bu a K H pn l rs ls st bg n):∀x∈pn::l::rs,x∉[r]:=fun x hx z=>by
 rw[mem_singleton.mp z]at hx;exact hR.apart hP hx
theorem Sg(fC:T.sM)(Kq:T.PJ)(cF:T.lD)(sQ:T.Ke)(lE:T.DR)(nE:T.DQ)(Lr:T.QA)(nB:T.DO):T.PN:=by
 refine T.Ny.fn.bz vD fun H Q E hr h=>?_
 obtain⟨x,b,rfl,hx,k1,k2⟩:=h;refine⟨_,(aa (aw 1 vD.nd (bW T.gC fC hr T.fL T.pf ay (pa1 (pv 0))))
   (aa (aw 2 vD.nd (HM T.Ts Kq hr T.Mx T.JO ay))
   (aa (aK (aM (pv 1) T.ar T.dS cF hr T.gO ay (pa1 (aB T.eD))))
   (aa (aR (lP (gb (cV (eA (pv 1) T.ar T.jc sQ hr T.sH ay))) (i4 (gb (cV (aM (pv 1) T.ar T.ig lE hr T.ph ay (pa1 aN)))))).pt (ah (bo T.aJ (by rfl))) aI)
   (aa (eu (gb (cV (eA (pv 1) T.ar T.jc sQ hr T.sH ay))) (aa (aw 3 vD.nd (aM (pv 1) T.ar T.lV nE hr T.Af ay (pa1 (aB T.pE))))
   (ah (aK (pcD Lr hr T.N6 ay (ai (pv 2) (ai (pv 3) (pa1 (pcD nB hr T.CI ay (pa1 (pv 1)))))))))))
   (ah (aD (ax (pv 2))))))))),?_⟩
 dsimp only[bq];refine eO (fun Q q=>⟨_,rfl,q⟩) hx fun r H1 hr1 kp1 hR1=>?_
 intro pn dpn hpn Yj YW;refine⟨pn,dpn,rfl,ae,fun l H2 TJ hl2 hP2=>⟨rfl,?_⟩⟩;have kp2:af [] H1 H2:=af.made hpn Yj TJ;have hl1:H1 l=none:=by
  have:(upd (upd H1 dpn (.own pn)) pn (.ins a.cN dpn [])) l=none:=hl2;have e1:l≠pn:=fun z=>by rw[z,ae]at this;cases this
  rw[aq e1]at this;have e2:l≠dpn:=fun z=>by rw[z,ae]at this;cases this
  rw[aq e2]at this;exact this
 have hR2:=hR1.eC kp2;refine bJ rfl hR2 et fun H3 kp3 hR3=>?_
 rw[eW]at hR3;have hP3:=hP2.keep kp3 (bu.wc hR2 hP2);have K3:af [] H H3:=(kp1.trans kp2).drop kp3 hr1;have Uu:∀x∈pn::l::([]:List Addr),H x=none:=fun x hx=>by
  rcases mem_cons.mp hx with rfl|hx
  .exact kp1.bP hpn
  .rw[mem_singleton.mp hx];exact kp1.bP hl1
 have Y5:(Sg35.skip b).length<=65600:=hR3.len;cases hsk:Sg35.skip b with
 |nil=>
  rw[hsk]at hR3;refine mP rfl hR3 ⟨_,rfl,aT (aT ?_)⟩;refine⟨fun m Y H'=>Y=[some (.str x),some (.ref r),some (.ref pn),none]/\H'=H3,⟨0,rfl,rfl⟩,?_⟩;rintro m Y H' ⟨rfl,rfl⟩;refine mP rfl hR3 ⟨_,rfl,aT ?_⟩;obtain⟨dx,s,b',hob,_,_⟩:=hP3.ob;refine⟨_,rfl,pn,a.cN,dx,_,_,rfl,hob,T.dk,T.d4,iz,?_⟩;exact k2 [] l _ (Bk hsk) K3 ⟨[],[],hP3.lst,kp1.bP hl1,by simp,.nil,.nil,by decide⟩
 |cons c0 r0=>
  rw[hsk]at hR3;refine mP rfl hR3 ⟨_,rfl,a9 ?_⟩;refine wJ rfl hR3 WK ⟨_,rfl,?_⟩;have hhd:hd1 isM (c0::r0)=isM c0:=rfl;rw[hhd];cases hm0:isM c0 with
  |false=>exact a9 (k1 (Ew hsk hm0) _)
  |true=>
   refine aT ?_;have Dy:=HU hsk hm0;have Yq:aC c0=77:=by
    rcases wL.mp hm0 with rfl|rfl<;>decide
   have Ya:pen.ft b=pen.ft (c0::r0):=by rw[<-hsk,Sg35.uB]
   have hl0:(c0::r0).length<=65600:=hR3.len;refine⟨fun m Y H'=>∃(t:B)(rs:List Addr)(ls:Lines)(st bg:Pt)(n:Nat)(pp:Pen)(lt:Option V),Y=[some (.str x),some (.ref r),some (.ref pn),lt]/\af [] H H'/\RdR a H' r t/\Sg35.skip t=t/\bu a K H' pn l rs ls st bg n/\(∀y∈pn::l::rs,H y=none)/\Sim ls st bg pp/\pen.ft b=pp.ft t/\
    (∀c t',t=c::t'->aC c≠77->ls≠[])/\n+16*t.length<=1049600/\m=t.length,⟨_,c0::r0,[],[],(0,0),(0,0),0,pen,none,rfl,K3,hR3,(by rw[<-hsk,bO]),hP3,Uu,Sg35.LV,Ya,fun c t' e hn=>?_,by lia,rfl⟩,?_⟩
   .injection e with e _
    subst e;exact absurd Yq hn
   rintro m Y H4 ⟨t,rs,ls,st,bg,n,pp,lt,rfl,K4,hR4,hst,hP4,hfr,hS,hgo,hls,hsz,rfl⟩;refine mP rfl hR4 ⟨_,rfl,?_⟩;cases ht:t with
   |nil=>
    rw[decide_eq_true rfl];refine aT ?_;obtain⟨dx,s,b',hob,_,_⟩:=hP4.ob;refine⟨_,rfl,pn,a.cN,dx,_,_,rfl,hob,T.dk,T.d4,iz,?_⟩;refine k2 _ l _ ?_ K4 ⟨rs,ls,hP4.lst,hfr l (by simp),fun y hy=>hfr y (by simp[hy]),hP4.li,hS.finish,le_trans hP4.tot (by lia)⟩;rw[Dy,hgo,ht,Sg35.rR (by rfl)];rfl
   |cons c t1=>
    subst ht;rw[decide_eq_false (by simp)];refine a9 ⟨fun Y' H'=>∃(t':B)(rs:List Addr)(ls:Lines)(st bg:Pt)(n:Nat)(pp:Pen)(lt:Option V),Y'=[some (.str x),some (.ref r),some (.ref pn),lt]/\af [] H H'/\RdR a H' r t'/\Sg35.skip t'=t'/\bu a K H' pn l rs ls st bg n/\(∀y∈pn::l::rs,H y=none)/\Sim ls st bg pp/\pen.ft b=pp.ft t'/\
     (∀c t2,t'=c::t2->aC c≠77->ls≠[])/\n+16*t'.length<=1049600/\t'.length<(c::t1).length,fun Y' H' ⟨t',rs,ls,st,bg,n,pp,lt,e1,e2,e3,e4,e5,e6,e7,e8,e9,e10,e11⟩=>⟨_,e11,t',rs,ls,st,bg,n,pp,lt,e1,e2,e3,e4,e5,e6,e7,e8,e9,e10,rfl⟩,?_⟩
    refine lW rfl hR4 LA (fun c' t1' e hpl H5 kp5 hR5=>?_) (fun hn=>k1 ?_)
    .injection e with e1 e2
     subst e1 e2;rw[D4 hpl];have hP5:=hP4.keep kp5 (bu.wc hR4 hP4);have K5:af [] H H5:=K4.drop kp5 hr1;refine⟨_,rfl,_,rfl,_,rfl,r,t1,rfl,hR5,fun hn=>k1 ?_,fun nums t2 p d7 hp H6 kp6 hR6 hp6=>?_⟩
     .rw[Dy,hgo];by_cases h90:aC c=90
      .rw[(wQ (p:=pp) hst h90).2 (fun t z=>by rw[hn]at z;cases z)];rfl
      .rw[(Sg35.oW (p:=pp) hst h90 hpl).1 hn];rfl
     have hP6:=hP5.keep kp6 (bu.wc hR5 hP5);have K6:af [] H H6:=K5.drop kp6 hr1;obtain⟨hlen,XH,_⟩:=Sg35.qB d7;have hpf:p∉pn::l::rs:=fun z=>by
      rcases mem_cons.mp z with rfl|z
      .obtain⟨_,_,_,e,_⟩:=hP5.ob;rw[hp]at e;cases e
      .rcases mem_cons.mp z with rfl|z
       .rw[hP5.lst]at hp;cases hp
       .obtain⟨_,e⟩:=hP5.li.mem z;rw[hp]at e;cases e
     simp only[length_cons]at hsz;have hdo:pen.ft b=(ke pp c nums).bind fun p'=>p'.ft t2:=by
      rw[hgo];unfold ke;by_cases h90:aC c=90
      .rw[if_pos h90];by_cases hn0:nums=[]
       .rw[if_pos hn0];subst hn0;exact(wQ (p:=pp) hst h90).1 t2 d7
       .rw[if_neg hn0,(wQ (p:=pp) hst h90).2 (fun t z=>by rw[d7]at z;cases z;exact hn0 rfl)];rfl
      .rw[if_neg h90];obtain⟨_,g2,g3⟩:=Sg35.oW (p:=pp) hst h90 hpl;by_cases hn0:nums=[]
       .rw[if_pos hn0];subst hn0;rw[g2 t2 d7];rfl
       .rw[if_neg hn0,g3 nums t2 d7 hn0]
     refine⟨pn,l,p,rs,ls,st,bg,n,pp,_,c,nums,rfl,hP6,hS,⟨rfl,hpl⟩,hp6,hls c t1 rfl,by lia,hpf,fun hn=>k1 ?_,fun pp' ls' st' bg' hd hS' Uj rs' H7 kp7 Yd hP7=>?_⟩
     .rw[Dy,hdo,hn];rfl
     .have hrf:=hR6.apart hP6;refine⟨t2,rs',ls',st',bg',_,pp',_,rfl,af.grow K6 kp7 (fun y hy=>.inr (hfr y hy)),hR6.keep kp7 hrf,XH,hP7,fun y hy=>?_,hS',?_,fun _ _ _ _=>Uj,?_,?_⟩
      .rcases mem_cons.mp hy with rfl|hy
       .exact hfr _ (by simp)
       .rcases mem_cons.mp hy with rfl|hy
        .exact hfr _ (by simp)
        .rcases Yd y hy with q|q
         .exact hfr y (by simp[q])
         .exact K6.bP q
      .rw[hdo,hd];rfl
      .lia
      .simp only[length_cons];lia
    .have hn':aV c=false:=hn;rw[Dy,hgo,Sg35.yO hst hn'];rfl
theorem R0:T.Al:=by
 refine T.tZ.fn.bz Q3 fun H Q E hr h=>?_
 obtain⟨d,x,s,as,rfl,rfl,hat,k1,k2⟩:=h;refine⟨_,(aa (aR (vS (Eu (gZ hr) (pv 1) (pv 0))) (ah (bo T.aJ (by rfl))) aI)
   (ah (aD (pM (gZ hr) (pv 0) (pv 1) (fun _ _=>rfl))))),?_⟩
 refine⟨_,rfl,_,rfl,d,_,rfl,fY.k (k:=Sum.inr (s:Str)) hat.1,_,rfl,?_⟩;rw[ik];cases hv:attr as s with
 |none=>exact a9 (k1 hv _)
 |some v=>
  refine aT ⟨_,rfl,_,rfl,d,_,rfl,(by rw[show(some (V.str (sg (v.map Sg35.tr))))=dJ (atK as) (Sum.inr (s:Str)) by rw[ik,hv];rfl];exact fY.k (k:=Sum.inr (s:Str)) hat.1),?_⟩;exact k2 v _ hv (Ag hat hv)
theorem LD:TxB ("0":Str) [48]:=⟨by decide +kernel,by decide,fun c hc=>by rw[mem_singleton.mp hc];decide⟩
theorem xR:single [48]=some 0:=by decide +kernel
theorem Wn{H:Hp}{d:Addr}{as:List (B×B)}(hat:gQ H d as)(s:String):∃(y:Str)(v:B),fY H d (.str (s:Str)) (dJ (atK as) (Sum.inr (s:Str)))/\(dJ (atK as) (Sum.inr (s:Str))).getD (.str "0")=.str y/\TxB y v/\numIn as s (some 0)=single v:=by
 have hg:fY H d (.str (s:Str)) (dJ (atK as) (Sum.inr (s:Str))):=fY.k (k:=Sum.inr (s:Str)) hat.1;cases hv:attr as s with
 |none=>
  refine⟨"0",[48],hg,by rw[ik,hv];rfl,LD,?_⟩;unfold numIn;rw[hv,xR]
 |some v=>
  refine⟨_,v,hg,by rw[ik,hv];rfl,Ag hat hv,?_⟩;unfold numIn;rw[hv]
theorem Sx(sS:T.Kg):T.J9:=by
 refine T.Gh.fn.bz Rg fun H Q E hr h=>?_
 obtain⟨d,x,y,kx,ky,as,rfl,rfl,rfl,hat,k1,k2⟩:=h;refine⟨_,(ah (aD (bH (ai (pcD sS hr T.CL ay (pa1 (mF (gZ hr) (pv 0) (pv 1) aN ⟨rfl,rfl,rfl,rfl⟩))) (pa1 (pcD sS hr T.CL ay (pa1 (mF (gZ hr) (pv 0) (pv 2) aN ⟨rfl,rfl,rfl,rfl⟩)))))))),?_⟩;obtain⟨y1,v1,g1,e1,t1,n1⟩:=Wn hat kx;rw[n1]at k1 k2;refine⟨_,rfl,d,rfl,.inl ⟨_,.inl hat.1⟩,_,rfl,_,g1,y1,v1,(by rw[e1];rfl),t1,fun hn=>k1 (.inl hn),fun u H1 hu kp1=>?_⟩;obtain⟨y2,v2,g2,e2,t2,n2⟩:=Wn (hat.keep kp1) ky;rw[n2]at k1 k2;refine⟨_,rfl,d,rfl,.inl ⟨_,.inl (hat.keep kp1).1⟩,_,rfl,_,g2,y2,v2,(by rw[e2];rfl),t2,fun hn=>k1 (.inr hn),fun v H2 hv kp2=>?_⟩;exact⟨sl2,fun t ht=>k2 u v t _ hu hv ((kp1.trans kp2).trans (af.new ht)) ae⟩
theorem nT{b:B}{z:Int}(h:single b=some z):z<=32767:=by
 unfold single at h;cases hx:numberAt b with
 |none=>rw[hx]at h;cases h
 |some x=>
  obtain⟨y,q⟩:=x;rw[hx]at h;dsimp only[bind_some]at h;split at h
  .cases h;rw[Sg35.cI]at hx;split at hx
   .cases hx
   .rename_i hc;have hm:natOf ((unsigned b).takeWhile digit)<=32767:=by
     rw[not_or,not_or]at hc;have:=hc.2.2;unfold MOST at this
     lia
    injection hx with hx
    injection hx with hx _
    rw[<-hx];split<;>lia
  .cases h
theorem SO(sR:T.Kf)(iP:T.Al):T.Kc:=by
 refine T.CJ.fn.bz Rq fun H Q E hr h=>?_
 obtain⟨d,x,s,as,rfl,rfl,hat,k1,k2⟩:=h;refine⟨_,(ah (aD (pcD sR hr T.CK ay (ai (pcD iP hr T.tZ ay (ai (pv 0) (pa1 (pv 1)))) (ai ag (pa1 (aB T.sq))))))),?_⟩;refine⟨_,rfl,_,rfl,d,_,s,as,rfl,rfl,hat,fun hn=>k1 fun z hz=>?_,fun v y hv ht=>?_⟩
 .unfold numIn at hz;rw[hn]at hz;cases hz
 have e:numIn as s none=single v:=by unfold numIn;rw[hv]
 rw[e]at k1 k2;refine⟨y,v,0,32767,rfl,ht,fun hn=>k1 fun z hz=>?_,fun z H1 hz h0 _ kp=>k2 z H1 hz h0 kp⟩;have h1:=hn z hz;have h2:=nT hz
 lia
theorem EX(as:List (B×B)):Sg35.kindOf (ascii "rect") as=(numIn as "x" (some 0)).bind fun x=>(numIn as "y" (some 0)).bind fun y=>(numIn as "width" none).bind fun w=>(numIn as "height" none).bind fun h=>
  if w<0\/h<0 then none else some (.lines [[Sg35.whole x y,Sg35.whole (x+w) y,Sg35.whole (x+w) (y+h),Sg35.whole x (y+h)]]):=by
 unfold Sg35.kindOf;rw[if_pos rfl];rfl
theorem yE(as:List (B×B)):Sg35.kindOf (ascii "circle") as=(numIn as "cx" (some 0)).bind fun x=>(numIn as "cy" (some 0)).bind fun y=>(numIn as "r" none).bind fun r=>if r<0 then none else some (.circle x y r):=by
 unfold Sg35.kindOf;rw[if_neg (by decide +kernel),if_pos rfl];rfl
theorem kg{n:B}(hn:n=ascii "polygon"\/n=ascii "polyline")(as:List (B×B)):Sg35.kindOf n as=(attr as "points").bind fun v=>(Sg35.row v).bind fun l=>(pairs l).map fun ps=>.lines [ps]:=by
 have h1:n≠ascii "rect":=by rcases hn with rfl|rfl<;>decide +kernel
 have h2:n≠ascii "circle":=by rcases hn with rfl|rfl<;>decide +kernel
 unfold Sg35.kindOf;rw[if_neg h1,if_neg h2,if_pos hn];cases attr as "points" with
 |none=>rfl
 |some v=>
  show((Sg35.row v).bind fun l=>(pairs l).bind fun ps=>some (Sg35.Kind.lines [ps]))=(Sg35.row v).bind fun l=>(pairs l).map fun ps=>Sg35.Kind.lines [ps]
  congr 1
  funext l
  cases pairs l<;>rfl
theorem EY(as:List (B×B)):Sg35.kindOf (ascii "path") as=(attr as "d").bind fun v=>(pathOf v).map fun l=>.lines l:=by
 unfold Sg35.kindOf;rw[if_neg (by decide +kernel),if_neg (by decide +kernel),if_neg (by rintro(z|z)<;>exact absurd z (by decide +kernel)),if_pos rfl];cases attr as "d" with
 |none=>rfl
 |some v=>cases h:pathOf v<;>simp[h]
theorem whp{K:Frag}{H:Hp}{t:Addr}{x y:Int}(h:H t=some (.tup [.int (4096*x),.int (4096*y)])):PtT K H t (Sg35.whole x y):=by
 rw[<-fT];exact SqT.of h
theorem Sf(uS:T.J9)(sP:T.Kc)(nD:T.DP)(eJ:T.sN):T.PM:=by
 refine T.Nw.fn.bz AW fun H Q E hr h=>?_
 obtain⟨d,as,rfl,hat,k1,k2⟩:=h;refine⟨_,(aa (aw 1 AW.nd (pcD uS hr T.Gh ay (ai (pv 0) (ai aN (pa1 aN)))))
   (aa (aw 2 AW.nd (bH (ai (ao aQ (az aA (pv 1) ag) (pcD sP hr T.CJ ay (ai (pv 0) (pa1 aN)))) (pa1 (ao aQ (az aA (pv 1) ag) (pcD sP hr T.CJ ay (ai (pv 0) (pa1 aN))))))))
   (ah (aD (bW T.lT nD hr T.j8 T.Ae ay (pa1 (cW (pa1 (cW (ai (pcD eJ hr T.jM cp (pa1 (pv 1))) (ai (pcD eJ hr T.jM cp (pa1 (bH (ai (az aA (pv 2) ag) (pa1 (az aA (pv 1) ag)))))) (ai (pcD eJ hr T.jM cp (pa1 (pv 2))) (pa1 (pcD eJ hr T.jM cp (pa1 (bH (ai (az aA (pv 1) ag) (pa1 (az aA (pv 2) ag))))))))))))))))))),?_⟩
 dsimp only[bq];rw[EX]at k1 k2;refine⟨_,rfl,d,_,_,"x","y",as,rfl,rfl,rfl,hat,fun hn=>k1 ?_,fun x y nr H1 hx hy kp1 hnr=>?_⟩
 .rcases hn with hn|hn
  .rw[hn];rfl
  .rw[hn];cases numIn as "x" (some 0)<;>rfl
 rw[hx,hy]at k1 k2;dsimp only[bind_some]at k1 k2;have hn1:SqT K H1 nr [.int x,.int y]:=SqT.of hnr;refine⟨_,rfl,_,_,_,_,rfl,rfl,hn1,rfl,_,rfl,d,_,"width",as,rfl,rfl,hat.keep kp1,fun hn=>k1 ?_,fun wd H2 hw hw0 kp2=>?_⟩
 .cases hwv:numIn as "width" none with
  |none=>rfl
  |some wd=>
   have:=hn wd hwv;dsimp only[bind_some];cases numIn as "height" none with
   |none=>rfl
   |some hh=>exact if_pos (.inl this)
 rw[hw]at k1 k2;dsimp only[bind_some]at k1 k2;refine⟨_,_,rfl,rfl,_,rfl,_,_,_,_,rfl,rfl,kp2.sqT hn1,rfl,_,rfl,d,_,"height",as,rfl,rfl,(hat.keep kp1).keep kp2,fun hn=>k1 ?_,fun ht H3 hh hh0 kp3=>?_⟩
 .cases hhv:numIn as "height" none with
  |none=>rfl
  |some hh=>exact if_pos (.inr (hn hh hhv))
 rw[hh]at k2;dsimp only[bind_some]at k2;rw[if_neg (by lia)]at k2;refine⟨_,_,rfl,rfl,sl2,fun fr hfr=>?_⟩;have kf:af [] H3 (upd H3 fr (.tup [.int (x+wd),.int (y+ht)])):=af.new hfr;have hf4:(upd H3 fr (.tup [.int (x+wd),.int (y+ht)])) fr=some (.tup [.int (x+wd),.int (y+ht)]):=ae;generalize upd H3 fr (.tup [.int (x+wd),.int (y+ht)])=H4 at kf hf4 ⊢;have K4:af [] H H4:=((kp1.trans kp2).trans kp3).trans kf;have hn4:H4 nr=some (.tup [.int x,.int y]):=kf.at (kp3.at (kp2.at hnr));refine⟨_,rfl,nr,(x,y),rfl,SqT.of hn4,fun t1 H5 kp5 ht1 e1=>?_⟩;refine⟨_,rfl,_,_,_,_,rfl,rfl,SqT.of (kp5.at hf4),rfl,_,rfl,_,_,_,_,rfl,rfl,SqT.of (kp5.at hn4),rfl,sl2,fun u2 hu2=>⟨u2,(x+wd,y),rfl,SqT.of ae,fun t2 H6 kp6 ht2 e2=>?_⟩⟩;have IJ:af [] H5 H6:=(af.new hu2).trans kp6;refine⟨_,rfl,fr,(x+wd,y+ht),rfl,SqT.of (IJ.at (kp5.at hf4)),fun t3 H7 kp7 ht3 e3=>?_⟩;refine⟨_,rfl,_,_,_,_,rfl,rfl,SqT.of (kp7.at (IJ.at (kp5.at hn4))),rfl,_,rfl,_,_,_,_,rfl,rfl,SqT.of (kp7.at (IJ.at (kp5.at hf4))),rfl,sl2,fun u4 hu4=>⟨u4,(x,y+ht),rfl,SqT.of ae,fun t4 H8 kp8 ht4 e4=>?_⟩⟩;have MF:af [] H7 H8:=(af.new hu4).trans kp8;refine⟨sl4,fun li hli=>⟨sl1,fun lo hlo=>?_⟩⟩;intro ob dob hob BH hne;have K8:af [] H H8:=K4.trans (kp5.trans (IJ.trans (kp7.trans MF)));have kli:af [] H8 (upd H8 li (.lst [V.ref t1,V.ref t2,V.ref t3,V.ref t4])):=af.new hli;have klo:af [] (upd H8 li (.lst [V.ref t1,V.ref t2,V.ref t3,V.ref t4])) (upd (upd H8 li (.lst [V.ref t1,V.ref t2,V.ref t3,V.ref t4])) lo (.lst [V.ref li])):=af.new hlo;have X7:=klo.at (ae (H:=H8) (a:=li) (o:=.lst [V.ref t1,V.ref t2,V.ref t3,V.ref t4]));have X5:(upd (upd H8 li (.lst [V.ref t1,V.ref t2,V.ref t3,V.ref t4])) lo (.lst [V.ref li])) lo=some (.lst [V.ref li]):=ae;generalize (upd (upd H8 li (.lst [V.ref t1,V.ref t2,V.ref t3,V.ref t4])) lo (.lst [V.ref li]))=H9 at *;have k89:af [] H8 H9:=kli.trans klo;refine⟨ob,dob,_,rfl,ae,fun H10 VN h10=>⟨rfl,?_⟩⟩;have MG:af [] H9 H10:=af.made hob BH VN;have K9:af [] H H9:=K8.trans k89;refine k2 _ ob H10 rfl (K9.trans MG) ⟨dob,lo,h10,K9.bP hob,[li],[[Sg35.whole x y,Sg35.whole (x+wd) y,Sg35.whole (x+wd) (y+ht),Sg35.whole x (y+ht)]],MG.at X5,K8.bP (kli.bP hlo),fun z hz=>by rw[mem_singleton.mp hz];exact K8.bP hli,.cons ⟨[t1,t2,t3,t4],MG.at X7,?_⟩ .nil,dZ.refl _,by show 4<=16000000;decide⟩;have kT:∀{G:Hp},af [] G H8->af [] G H10:=fun kk=>kk.trans (k89.trans MG)
 exact .cons (whp ((kT (IJ.trans (kp7.trans MF))).at e1)) (.cons (whp ((kT (kp7.trans MF)).at e2)) (.cons (whp ((kT MF).at e3)) (.cons (whp ((kT af.refl).at e4)) .nil)))
theorem SN(uS:T.J9)(KS:T.Qc)(sP:T.Kc):T.Qj:=by
 refine T.NS.fn.bz GG fun H Q E hr h=>?_
 obtain⟨d,as,rfl,hat,k1,k2⟩:=h;refine⟨_,(aa (aw 1 GG.nd (pcD uS hr T.Gh ay (ai (pv 0) (ai aN (pa1 aN)))))
   (ah (aD (bW T.EM KS hr T.rg T.JT ay (ai (az aA (pv 1) ag) (ai (az aA (pv 1) ag) (pa1 (pcD sP hr T.CJ ay (ai (pv 0) (pa1 aN)))))))))),?_⟩
 dsimp only[bq];rw[yE]at k1 k2;refine⟨_,rfl,d,_,_,"cx","cy",as,rfl,rfl,rfl,hat,fun hn=>k1 ?_,fun x y nr H1 hx hy kp1 hnr=>?_⟩
 .rcases hn with hn|hn
  .rw[hn];rfl
  .rw[hn];cases numIn as "cx" (some 0)<;>rfl
 rw[hx,hy]at k1 k2;dsimp only[bind_some]at k1 k2;have hn1:SqT K H1 nr [.int x,.int y]:=SqT.of hnr;refine⟨_,rfl,_,_,_,_,rfl,rfl,hn1,rfl,_,rfl,_,_,_,_,rfl,rfl,hn1,rfl,_,rfl,d,_,"r",as,rfl,rfl,hat.keep kp1,fun hn=>k1 ?_,fun rd H2 hr hr0 kp2=>?_⟩
 .cases hrv:numIn as "r" none with
  |none=>rfl
  |some rd=>exact if_pos (hn rd hrv)
 rw[hr]at k2;dsimp only[bind_some]at k2;rw[if_neg (by lia)]at k2;intro ob dob hob BH hne;refine⟨ob,dob,_,_,_,rfl,ae,fun H3 TH h3=>⟨rfl,?_⟩⟩;have kp3:af [] H2 H3:=af.made hob BH TH;exact k2 _ ob H3 rfl ((kp1.trans kp2).trans kp3) ⟨dob,h3,(kp1.trans kp2).bP hob⟩
theorem yh:∀(l:List Int),pairs l=if l.length%2=0 then some ((gh 0 0 l).map Sg35.wh)else none
 |[]=>rfl
 |[_]=>rfl
 |x::y::r=>by
  rw[pairs,yh r];have:(x::y::r).length%2=r.length%2:=by simp only[length_cons];lia
  rw[this];by_cases h:r.length%2=0
  .rw[if_pos h,if_pos h];simp only[map_some,gh,map_cons,zero_add,fT]
  .rw[if_neg h,if_neg h];rfl
theorem SM(KC:T.PZ)(iP:T.Al)(nD:T.DP)(eJ:T.sN):T.Qi:=by
 refine T.NR.fn.bz vH fun H Q E hr h=>?_
 obtain⟨d,as,rfl,hat,k1,k2⟩:=h;refine⟨_,(aa (aw 1 vH.nd (pcD KC hr T.NG ay (pa1 (pcD iP hr T.tZ ay (ai (pv 0) (pa1 aN))))))
   (aa (aR (aF jv (ao qQ (aL aP T.cC (pa1 (pv 1))) ag) ag) (ah (bo T.aJ (by rfl))) aI)
   (ah (aD (bW T.lT nD hr T.j8 T.Ae ay (pa1 (cW (pa1 (qN rfl vH.nd (nY (by rfl) T.fq (ai ag (ai (aL aP T.cC (pa1 (pv 1))) (pa1 ag)))) (fW (own:=[("k",2)]) (by with_unfolding_all rfl)) (fun s H C cl fp=>(bG 2 vH.nd)) (fun s H C cl fp=>gV) (fun s H C cl fp=>(pcD eJ hr T.jM cp (pa1 (bH (ai (az (show IxR _ (Er K)from bh) (pv 1) (pv 2)) (pa1 (az (show IxR _ (Er K)from bh) (pv 1) (ao aQ (pv 2) ag))))))))))))))))),?_⟩
 dsimp only[bq];rw[kg (.inl rfl)]at k1 k2;refine⟨_,rfl,d,_,"points",as,rfl,rfl,hat,fun hn=>k1 (by rw[hn];rfl),fun v y hv ht=>?_⟩;rw[hv]at k1 k2;dsimp only[bind_some]at k1 k2;refine⟨y,v,rfl,ht,fun hn=>k1 (by rw[hn];rfl),fun l p H1 hl hp kp1 hlp=>?_⟩;rw[hl]at k1 k2;dsimp only[bind_some]at k1 k2;rw[yh]at k1 k2;refine⟨_,rfl,p,_,rfl,.inl (SqL.of hlp),_,_,rfl,rfl,(by show(0:Int)<2;decide),rfl,!decide (l.length%2=0),congrArg (fun z=>V.bl (!z)) (by
  rw[length_map,Bool.eq_iff_iff,decide_eq_true_eq,decide_eq_true_eq];constructor
  .intro z;injection z with z;lia
  .intro z;show V.int ((l.length:Int)%2)=V.int 0
   congr 1;lia),?_⟩
 by_cases hev:l.length%2=0
 case neg=>
  rw[if_neg hev]at k1;rw[decide_eq_false hev];exact a9 (k1 rfl _)
 rw[if_pos hev]at k2;rw[decide_eq_true hev];obtain⟨n,hn⟩:∃n,l.length=2*n:=⟨l.length/2,by lia⟩;have hlen:l.length<=65600:=by
  have d7:=vN v;rw[hl]at d7;cases hra:rowAt v with
  |none=>rw[hra]at d7;cases d7
  |some z=>
   obtain⟨l',t'⟩:=z;rw[hra]at d7;dsimp only[bind_some]at d7;split at d7
   .cases d7;have:=(Sg35.qB hra).1;have:=ht.2.1
    lia
   .cases d7
 have hul:=gA (bx:=0) (by_:=0) hn;refine aT ⟨_,rfl,p,_,rfl,.inl (SqL.of hlp),0,_,2,n,rfl,(by rw[length_map,hn];exact rgC (c:=2) (by decide) (by decide) (by lia)),fun D hD=>?_⟩;refine⟨fun i m H'=>m=n-i/\i<=n/\af [] H1 H'/\∃ts,H' D=some (.lst (ts.map V.ref))/\ts.length=i/\cZ K H' ts (((gh 0 0 l).map Sg35.wh).take i),⟨_,rfl,zero_le _,af.new hD,[],ae,rfl,.nil⟩,?_⟩;rintro i m H2 ⟨rfl,hi,kp2,ts,hts,htl,tO⟩;by_cases hlt:i<n
 .refine .inr ⟨hlt,fun H'=>af [] H1 H'/\∃ts,H' D=some (.lst (ts.map V.ref))/\ts.length=i+1/\cZ K H' ts (((gh 0 0 l).map Sg35.wh).take (i+1)),fun H' hq=>⟨n-(i+1),by lia,rfl,hlt,hq.1,hq.2⟩,?_⟩;rintro y H3 ⟨rfl,rfl⟩;obtain⟨u,hu⟩:∃u,l[2*i]?=some u:=⟨_,List.getElem?_eq_getElem (by lia)⟩;obtain⟨v2,hv2⟩:∃v,l[2*i+1]?=some v:=⟨_,List.getElem?_eq_getElem (by lia)⟩;have hu':atI (l.map V.int) (0+(i:Int)*2)=some (V.int u):=by
   rw[show(0+(i:Int)*2)=((2*i:Nat):Int) by lia];exact dm (by rw[List.getElem?_map,hu];rfl)
  have hv':atI (l.map V.int) (0+(i:Int)*2+1)=some (V.int v2):=by
   rw[show(0+(i:Int)*2+1)=((2*i+1:Nat):Int) by lia];exact dm (by rw[List.getElem?_map,hv2];rfl)
  have hl3:SqL K H3 p (l.map V.int):=SqL.of (kp2.at hlp);refine⟨rfl,_,rfl,_,rfl,_,_,_,_,rfl,rfl,hl3,hu',_,rfl,_,rfl,_,_,rfl,rfl,_,_,_,_,rfl,rfl,hl3,hv',sl2,fun t0 ht0=>⟨t0,(u,v2),rfl,SqT.of ae,fun t1 H4 kp4 ht1 e1=>?_⟩⟩;have k34:af [] H3 H4:=(af.new ht0).trans kp4;refine⟨_,k34.at hts,(by rw[length_map,sizeLine_eq];lia),?_,ts++[t1],?_,?_,?_⟩
  .exact af.drop (kp2.trans k34) (af.set (by simp) (by rw[k34.at hts];exact trivial)) hD
  .rw[ae,map_append];rfl
  .rw[length_append,htl];rfl
  .have kk:af [D] H3 (upd H4 D (.lst (ts.map V.ref++[V.ref t1]))):=k34.up.trans (af.set (by simp) (by rw[k34.at hts];exact trivial));rw[take_succ,List.getElem?_map,nJ hu hv2];refine(tO.keep kk).snoc ?_;have e2:(upd H4 D (.lst (ts.map V.ref++[V.ref t1]))) t1=some (.tup [.int (4096*u),.int (4096*v2)]):=(af.set (M:=[D]) (by simp) (by rw[k34.at hts];exact trivial)).tp _ _ e1;rw[zero_add,zero_add];exact SqT.of e2
 .have:i=n:=by lia
  subst this;refine .inl ⟨le_refl _,sl1,fun lo hlo=>?_⟩;rw[take_of_length_le (by rw[length_map];lia)]at tO;intro ob dob hob BH hne;have klo:af [] H2 (upd H2 lo (.lst [V.ref D])):=af.new hlo;refine⟨ob,dob,_,rfl,ae,fun H5 TF h5=>⟨rfl,?_⟩⟩;have kp5:af [] (upd H2 lo (.lst [V.ref D])) H5:=af.made hob BH TF;have K2:af [] H H2:=kp1.trans kp2;have k25:af [] H2 H5:=klo.trans kp5
  exact k2 _ ob H5 rfl (K2.trans k25) ⟨dob,lo,h5,(K2.trans klo).bP hob,[D],[(gh 0 0 l).map Sg35.wh],kp5.at ae,K2.bP hlo,fun z hz=>by rw[mem_singleton.mp hz];exact kp1.bP hD,.cons ⟨ts,k25.at hts,tO.keep k25⟩ .nil,dZ.refl _,by
 show((gh 0 0 l).map Sg35.wh).length+0<=16000000;rw[<-tO.length]
 lia⟩
theorem pX{x:Str}{b:B}(hx:x=sg b)(s:String):decide (V.str x=V.str (s:Str))=decide (b=ascii s):=by
 rw[Bool.eq_iff_iff,decide_eq_true_eq,decide_eq_true_eq,hx,lit];constructor
 .intro z;injection z with z;exact jT z
 .intro z;rw[z]
theorem SK(Kt:T.PM)(K0:T.Qj)(nD:T.DP)(Ku:T.PN)(iP:T.Al)(KZ:T.Qi):T.Qh:=by
 refine T.NQ.fn.bz Rp fun H Q E hr h=>?_
 obtain⟨d,x,n,as,rfl,hx,hn,hat,k1,k2⟩:=h;refine⟨_,(aa (aR (aF dr (pv 0) aN) (ah (aD (pcD Kt hr T.Nw ay (pa1 (pv 1))))) aI)
   (aa (aR (aF dr (pv 0) aN) (ah (aD (pcD K0 hr T.NS ay (pa1 (pv 1))))) aI)
   (aa (aR (aF dr (pv 0) aN) (ah (aD (bW T.lT nD hr T.j8 T.Ae ay (pa1 (pcD Ku hr T.Ny ay (pa1 (pcD iP hr T.tZ ay (ai (pv 1) (pa1 aN))))))))) aI)
   (ah (aD (pcD KZ hr T.NR ay (pa1 (pv 1)))))))),?_⟩
 refine⟨_,rfl,rfl,decide (n=ascii "rect"),congrArg V.bl (pX hx _),?_⟩;by_cases n1:n=ascii "rect"
 .rw[decide_eq_true n1];subst n1;exact a9 ⟨_,rfl,d,as,rfl,hat,k1,k2⟩
 refine dF n1 ⟨_,rfl,rfl,decide (n=ascii "circle"),congrArg V.bl (pX hx _),?_⟩;by_cases n2:n=ascii "circle"
 .rw[decide_eq_true n2];subst n2;exact a9 ⟨_,rfl,d,as,rfl,hat,k1,k2⟩
 refine dF n2 ⟨_,rfl,rfl,decide (n=ascii "path"),congrArg V.bl (pX hx _),?_⟩;by_cases n3:n=ascii "path"
 .rw[decide_eq_true n3];subst n3;rw[EY]at k1 k2;refine a9 ⟨_,rfl,d,_,"d",as,rfl,rfl,hat,fun hv=>k1 (by rw[hv];rfl),fun v y hv ht=>?_⟩;rw[hv]at k1 k2;dsimp only[bind_some]at k1 k2;refine⟨y,v,rfl,ht,fun hq=>k1 (by rw[hq];rfl),fun ls lo H1 hq kp1 hlo=>?_⟩;rw[hq]at k2;intro ob dob hob BH hne;refine⟨ob,dob,_,rfl,ae,fun H2 TJ h2=>⟨rfl,?_⟩⟩;have kp2:af [] H1 H2:=af.made hob BH TJ;obtain⟨rs,ls',e1,e2,e3,e4,e5⟩:=hlo;exact k2 _ ob H2 rfl (kp1.trans kp2) ⟨dob,lo,h2,kp1.bP hob,rs,ls',kp2.at e1,e2,e3,e4.keep kp2 (fun _ _=>by simp),e5⟩
 rw[decide_eq_false n3];have hp:n=ascii "polygon"\/n=ascii "polyline":=by
  unfold bj at hn;simp only[mem_cons,not_mem_nil,or_false]at hn;rcases hn with h|h|h|h|h
  .exact absurd h n1
  .exact absurd h n2
  .exact .inl h
  .exact .inr h
  .exact absurd h n3
 have ek:Sg35.kindOf n as=Sg35.kindOf (ascii "polygon") as:=by rw[kg hp,kg (.inl rfl)]
 rw[ek]at k1 k2;exact aT ⟨_,rfl,d,as,rfl,hat,k1,k2⟩
section
variable{M:List Addr}{F:Addr->Prop}{H H':Hp}
theorem nA.keep{s:Addr}{f:Option Nat}{o:Bool}(h:nA a H s f o)(k:af M H H')(n:s∉M):nA a H' s f o:=by
 obtain⟨dx,e⟩:=h;exact⟨dx,k.kp _ _ e n⟩
theorem kD.keep{l:Addr}{ls:Lines}(h:kD K F H l ls)(k:af M H H')(hF:∀x,F x->x∉M):kD K F H' l ls:=by
 obtain⟨rs,ls',e1,e2,e3,e4,e5⟩:=h;exact⟨rs,ls',k.kp _ _ e1 (hF _ e2),e2,e3,e4.keep k fun r hr=>hF r (e3 r hr),e5⟩
theorem jD.keep{f:Addr}{kd:Sg35.Kind}(h:jD a K F H f kd)(k:af M H H')(hF:∀x,F x->x∉M):jD a K F H' f kd:=by
 cases kd with
 |lines ls=>
  obtain⟨dx,l,e1,e2,e3⟩:=h;exact⟨dx,l,k.kp _ _ e1 (hF _ e2),e2,e3.keep k hF⟩
 |circle x y r=>
  obtain⟨dx,e1,e2⟩:=h;exact⟨dx,k.kp _ _ e1 (hF _ e2),e2⟩
theorem jD.imp{G:Addr->Prop}{f:Addr}{kd:Sg35.Kind}(h:jD a K F H f kd)(hF:∀x,F x->G x):jD a K G H f kd:=by
 cases kd with
 |lines ls=>
  obtain⟨dx,l,e1,e2,rs,ls',e3,e4,e5,e6⟩:=h;exact⟨dx,l,e1,hF _ e2,rs,ls',e3,hF _ e4,fun x hx=>hF _ (e5 x hx),e6⟩
 |circle x y r=>
  obtain⟨dx,e1,e2⟩:=h;exact⟨dx,e1,hF _ e2⟩
theorem xi.keep{s:Addr}{sh:Sg35.Shape}(h:xi a K F H s sh)(k:af M H H')(hF:∀x,F x->x∉M):xi a K F H' s sh:=by
 obtain⟨dx,f,m,y,e1,e2,e3,e4,e5,e6,e7⟩:=h;exact⟨dx,f,m,y,k.kp _ _ e1 (hF _ e2),e2,e3,e4.keep k hF,k.sqT e5,e6,e7.keep k (hF _ e3)⟩
theorem tW.keep{x:Addr}{f:Sg35.Fr}(h:tW a K F H x f)(k:af M H H')(hF:∀x,F x->x∉M):tW a K F H' x f:=by
 obtain⟨dx,m,y,e1,e2,e3,e4,e5,e6,e7⟩:=h;exact⟨dx,m,y,k.kp _ _ e1 (hF _ e2),e2,e3,k.sqT e4,e5,e6.keep k (hF _ e3),e7⟩
theorem gk.keep{hl:Addr}{hs:List Addr}{fs:List Sg35.Fr}(h:gk a K F H hl hs fs)(k:af M H H')(n:hl∉M)(hF:∀x,F x->x∉M):gk a K F H' hl hs fs:=
 ⟨k.kp _ _ h.lst n,Paired.rn h.ho fun _ _ z=>tW.keep z k hF,h.few,h.dep⟩
theorem eR.keep{p l:Addr}{ss:List Addr}{w h:Nat}{shs:List Sg35.Shape}(z:eR a K F H p l ss w h shs)(k:af M H H')(n1:p∉M)(n2:l∉M)(hF:∀x,F x->x∉M):eR a K F H' p l ss w h shs:=by
 obtain⟨dx,e⟩:=z.ob;exact⟨⟨dx,k.kp _ _ e n1⟩,k.kp _ _ z.lst n2,Paired.rn z.sh fun _ _ q=>xi.keep q k hF,z.few⟩
theorem vT{I L:Type}{R:I->L->Prop}{x:I}{y:L}:∀{l:List I}{m:List L},Paired R l m->R x y->Paired R (l++[x]) (m++[y])
 |_,_,.nil,r=>.cons r .nil
 |_,_,.cons q t,r=>.cons q (vT t r)
theorem gB{I L:Type}{R:I->L->Prop}:∀{l:List I}{m:List L}{y:L},Paired R l (m++[y])->∃l0 x,l=l0++[x]/\Paired R l0 m/\R x y
 |_,[],y,h=>by
  cases h with
  |cons q t=>cases t;exact⟨[],_,rfl,.nil,q⟩
 |_,z::m,y,h=>by
  cases h with
  |cons q t=>
   obtain⟨l0,x,e,h1,h2⟩:=gB (m:=m) t;exact⟨_::l0,x,by rw[e];rfl,.cons q h1,h2⟩
theorem eR.push{p l s:Addr}{ss:List Addr}{w h:Nat}{shs:List Sg35.Shape}{sh:Sg35.Shape}(z:eR a K F H p l ss w h shs)(hs:xi a K F H s sh)(hpl:p≠l)(hF:∀x,F x->x≠l)(hf:shs.length<65600):
  eR a K F (upd H l (.lst (ss.map V.ref++[V.ref s]))) p l (ss++[s]) w h (shs++[sh]):=by
 obtain⟨dx,e⟩:=z.ob;have k1:af [l] H (upd H l (.lst (ss.map V.ref++[V.ref s]))):=af.set (by simp) (by rw[z.lst];exact trivial);have hF':∀x,F x->x∉[l]:=fun x hx=>by simpa using hF x hx
 refine⟨⟨dx,k1.one e hpl⟩,by rw[ae,map_append];rfl,vT (Paired.rn z.sh fun _ _ q=>xi.keep q k1 hF') (hs.keep k1 hF'),?_⟩;rw[length_append];simp only[length_cons,length_nil];omega
theorem gk.push{hl x:Addr}{hs:List Addr}{fs:List Sg35.Fr}{f:Sg35.Fr}(z:gk a K F H hl hs fs)(hx:tW a K F H x f)(hF:∀x,F x->x≠hl)(hf:fs.length<19)(hd:f.shape=false->f.k+fs.length=17):
  gk a K F (upd H hl (.lst (hs.map V.ref++[V.ref x]))) hl (hs++[x]) (fs++[f]):=by
 have k1:af [hl] H (upd H hl (.lst (hs.map V.ref++[V.ref x]))):=af.set (by simp) (by rw[z.lst];exact trivial);have hF':∀x,F x->x∉[hl]:=fun x hx=>by simpa using hF x hx
 refine⟨by rw[ae,map_append];rfl,vT (Paired.rn z.ho fun _ _ q=>tW.keep q k1 hF') (hx.keep k1 hF'),?_,fun i g hg hs=>?_⟩
 .rw[length_append];simp only[length_cons,length_nil];omega
 .by_cases hi:i<fs.length
  .rw[List.getElem?_append_left hi]at hg;exact z.dep i g hg hs
  .rw[List.getElem?_append_right (by omega)]at hg;have:i=fs.length:=by
    have:=(List.getElem?_eq_some_iff.mp hg).1;simp only[length_cons,length_nil]at this;omega
   subst this;simp at hg;subst hg;exact hd hs
end
theorem iu{u v z:V}:(tgF u v z).lookup ("name":Str)=some u:=rfl
theorem cS{u v z:V}:(tgF u v z).lookup ("attributes":Str)=some v:=rfl
theorem pV{u v z:V}:(tgF u v z).lookup ("closed":Str)=some z:=rfl
theorem yJ{u v z:V}:(hoF u v z).lookup ("name":Str)=some u:=rfl
theorem BG{u v z:V}:(hoF u v z).lookup ("matrix":Str)=some v:=rfl
theorem Fh{u v z:V}:(hoF u v z).lookup ("style":Str)=some z:=rfl
theorem ug{u v z:V}:(pcF u v z).lookup ("width":Str)=some u:=rfl
theorem qP{u v z:V}:(pcF u v z).lookup ("height":Str)=some v:=rfl
theorem qO{u v z:V}:(pcF u v z).lookup ("shapes":Str)=some z:=rfl
theorem rG(n:B):inV (.str (sg n)) [.str "rect",.str "circle",.str "polygon",.str "polyline",.str "path"]=decide (n∈bj):=by
 unfold inV bj;simp only[any_cons,any_nil,Bool.or_false,eqV];rw[Bool.eq_iff_iff];simp only[Bool.or_eq_true,beq_iff_eq,decide_eq_true_eq,mem_cons,not_mem_nil,or_false,lit,Q2];constructor
 .rintro(h|h|h|h|h)<;>simp[h]
 .rintro(h|h|h|h|h)<;>simp[h]
theorem S0:T.Qr:=by
 refine T.BW.bz Ru fun H Q E hr h=>?_
 obtain⟨x,dx,u,v,rfl,hx,k⟩:=h;refine⟨_,(aa (aX (pv 0) (pv 1))
   (aa (aX (pv 0) (pv 2))
   (ah (aX (pv 0) (cW lS))))),?_⟩
 dsimp only[bq];refine⟨_,rfl,_,rfl,x,a.bb,dx,_,rfl,hx,T.dj,T.fJ,lt0,_,rfl,_,rfl,x,a.bb,dx,_,rfl,ae,T.dj,T.fc,lt1,sl0,fun l hl=>?_⟩;have e0:upd (upd H x (.ins a.bb dx (bw "width" u []))) x (.ins a.bb dx (bw "height" v (bw "width" u [])))=upd H x (.ins a.bb dx [("width",u),("height",v)]):=by
  rw[cf,dP,bD (by decide +kernel),dP]
 rw[e0]at hl;refine⟨_,rfl,x,a.bb,dx,[("width",u),("height",v)],rfl,?_,T.dj,T.fb,lt2,?_⟩
 .rw[e0];exact(af.new (M:=[]) hl).at ae
 rw[e0];have e:bw "shapes" (V.ref l) ([("width",u),("height",v)]:List (Str×V))=pcF u v (.ref l):=by
  rw[bD (by decide +kernel),bD (by decide +kernel),dP];rfl
 show Q _ (upd (upd (upd H x _) l _) x _);rw[e];have k1:af [x] H (upd H x (.ins a.bb dx [("width",u),("height",v)])):=af.set (by simp) (by rw[hx];exact trivial);have k2:af [x] (upd H x (.ins a.bb dx [("width",u),("height",v)])) (upd (upd H x (.ins a.bb dx [("width",u),("height",v)])) l (.lst [])):=af.new hl;have ex:=(af.new (M:=[]) (o:=HO.lst []) hl).at (ae (H:=H) (a:=x) (o:=.ins a.bb dx [("width",u),("height",v)]));have nxl:l≠x:=fun z=>by rw[z,ae]at hl;cases hl
 have k3:af [x] (upd (upd H x (.ins a.bb dx [("width",u),("height",v)])) l (.lst [])) (upd (upd (upd H x (.ins a.bb dx [("width",u),("height",v)])) l (.lst [])) x (.ins a.bb dx (pcF u v (.ref l)))):=af.set (by simp) (by rw[ex];exact trivial);exact k l _ (k1.trans (k2.trans k3)) (by rw[aq nxl]at hl;exact hl) (k3.one ae nxl) ae
theorem C0{as:List (B×B)}{s:String}{v:B}(hv:attr as s=some v):side as s=(single v).bind fun z=>if 1<=z/\z<=1024 then some z.toNat else none:=by
 unfold side numIn;rw[hv]
theorem C1{as:List (B×B)}{s:String}(hv:attr as s=none):side as s=none:=by
 unfold side numIn;rw[hv];rfl
theorem Sv(sR:T.Kf)(iP:T.Al)(Li:T.Qr):T.P5:=by
 refine T.NJ.fn.bz A0 fun H Q E hr h=>?_
 obtain⟨g,n,as,cq,rfl,⟨dx,d,hg,hat,hnm⟩,k1,k2⟩:=h;refine⟨_,(aa (aR (aF jv (ax (pv 0)) aN) (ah (bo T.aJ (by rfl))) aI)
   (aa (aw 1 A0.nd (pcD sR hr T.CK ay (ai (pcD iP hr T.tZ ay (ai (ax (pv 0)) (pa1 aN))) (ai ag (pa1 (aB T.jz))))))
   (aa (aw 2 A0.nd (pcD sR hr T.CK ay (ai (pcD iP hr T.tZ ay (ai (ax (pv 0)) (pa1 aN))) (ai ag (pa1 (aB T.jz))))))
   (ah (aD (bW T.Bt Li hr T.yw T.JU ay (ai (pv 1) (pa1 (pv 2))))))))),?_⟩
 dsimp only[bq];refine⟨_,rfl,g,a.fk,dx,_,_,rfl,hg,T.dW,T.dR,iu,rfl,!decide (n=ascii "svg"),congrArg (fun z=>V.bl (!z)) (pX rfl _),?_⟩;by_cases hn:n=ascii "svg"
 case neg=>
  rw[decide_eq_false hn];exact a9 (k1 (fun h=>absurd h hn) _)
 rw[decide_eq_true hn];refine aT ⟨_,rfl,g,a.fk,dx,_,_,rfl,hg,T.dW,T.bI,cS,d,_,"width",as,rfl,rfl,hat,fun hv=>k1 (fun _=>.inl (C1 hv)),fun v y hv ht=>?_⟩;have hs1:=C0 hv;refine⟨y,v,1,1024,rfl,ht,fun hno=>k1 (fun _=>.inl ?_),fun z H1 hz h1 h2 kp1=>?_⟩
 .rw[hs1];cases hz:single v with
  |none=>rfl
  |some z=>exact if_neg (hno z hz)
 rw[hz]at hs1;have XO:side as "width"=some z.toNat:=by rw[hs1];exact if_pos ⟨h1,h2⟩
 refine⟨_,rfl,g,a.fk,dx,_,_,rfl,kp1.at hg,T.dW,T.bI,cS,d,_,"height",as,rfl,rfl,hat.keep kp1,fun hv=>k1 (fun _=>.inr (C1 hv)),fun v2 y2 hv2 ht2=>?_⟩;have hs2:=C0 hv2;refine⟨y2,v2,1,1024,rfl,ht2,fun hno=>k1 (fun _=>.inr ?_),fun z2 H2 hz2 h3 h4 kp2=>?_⟩
 .rw[hs2];cases hz:single v2 with
  |none=>rfl
  |some z=>exact if_neg (hno z hz)
 rw[hz2]at hs2;have XN:side as "height"=some z2.toNat:=by rw[hs2];exact if_pos ⟨h3,h4⟩
 refine⟨_,rfl,_,rfl,fun p dp hp hdp hne=>⟨p,dp,_,_,rfl,ae,fun l H3 TH hl hl3 hp3=>⟨rfl,?_⟩⟩⟩;have kp3:af [] H2 H3:=af.made hp hdp TH;have K2:af [] H H2:=kp1.trans kp2;have hl2:H2 l=none:=by
  have e1:l≠p:=fun z=>by rw[z,ae]at hl;cases hl
  rw[aq e1]at hl;have e2:l≠dp:=fun z=>by rw[z,ae]at hl;cases hl
  rw[aq e2]at hl;exact hl
 refine k2 z.toNat z2.toNat p l H3 hn XO XN (K2.trans kp3) (K2.bP hp) (K2.bP hl2) ⟨⟨dp,?_⟩,hl3,.nil,by simp⟩;rw[hp3,Int.toNat_of_nonneg (by omega),Int.toNat_of_nonneg (by omega)]
theorem SJ:T.Qg:=by
 refine T.NP.fn.bz Ro fun H Q E hr h=>?_
 obtain⟨g,hl,n,as,cq,F,hs,fs,f,rfl,⟨dx,d,hg,hat,hnm⟩,yI,k1,k2⟩:=h;refine⟨_,(aa (aR (aF iB (ax (az bh (pv 1) (ju fZ ag))) (i6 (v:=.ref _) (by rfl) T.iK rfl)) (ah (bo T.aJ (by rfl))) aI)
   (ah (aR (lP (aF mH (ax (pv 0)) (i6 (v:=.ref _) (by rfl) T.iK rfl)) (i4 (oQ (aF jv (ax (pv 0)) aN) (lO (aF jX (ao cg (aL aP T.cC (pa1 (pv 1))) ag) (aB T.jF)))).pt)).pt (ah (bo T.aJ (by rfl))) aI))),?_⟩
 dsimp only[bq];obtain⟨hs0,x,rfl,ho0,dxh,m,y,e1,e2,e3,e4,e5,e6,e7,e8⟩:=gB yI.ho;refine⟨_,rfl,_,rfl,_,_,_,V.ref x,rfl,rfl,SqL.of yI.lst,(by rw[map_append];exact gP _ _),x,a.cj,dxh,_,_,rfl,e1,T.fO,T.gJ,yJ,_,_,rfl,.inr (T.iG H),rfl,rfl,decide (f.name∈bj),congrArg V.bl (rG _),?_⟩;unfold jq at k1 k2;by_cases hsh:f.name∈bj
 .rw[decide_eq_true hsh];rw[e8.mpr hsh]at k1;exact a9 (k1 rfl _)
 have hf0:f.shape=false:=by
  cases hh:f.shape with
  |false=>rfl
  |true=>exact absurd (e8.mp hh) hsh
 rw[decide_eq_false hsh];rw[hf0]at k1 k2;have Yk:=yI.dep fs.length f (by simp) hf0;have hlen:(hs0++[x]).length=fs.length+1:=by rw[Paired.length yI.ho,length_append];rfl
 refine aT ⟨_,rfl,g,a.fk,dx,_,_,rfl,hg,T.dW,T.dR,iu,_,_,rfl,.inr (T.iG H),rfl,rfl,!decide (n∈bj),congrArg (fun z=>V.bl (!z)) (rG _),?_⟩;by_cases hn:n∈bj
 .rw[decide_eq_true hn]at k2 ⊢;exact aT (aT (k2 rfl))
 rw[decide_eq_false hn]at k1 k2 ⊢;refine a9 ⟨_,rfl,g,a.fk,dx,_,_,rfl,hg,T.dW,T.dR,iu,rfl,!decide (n=ascii "g"),congrArg (fun z=>V.bl (!z)) (pX rfl _),?_⟩;by_cases hgg:n=ascii "g"
 case neg=>
  rw[decide_eq_false hgg]at k1 ⊢;exact a9 (a9 (k1 rfl _))
 rw[decide_eq_true hgg]at k1 k2 ⊢;refine aT ⟨_,rfl,hl,_,rfl,.inl (SqL.of yI.lst),_,_,rfl,rfl,_,_,rfl,rfl,!decide (f.k≠0),congrArg V.bl (by
  rw[length_map,hlen,Bool.eq_iff_iff,decide_eq_true_eq,Bool.not_eq_true',decide_eq_false_iff_not];constructor
  .intro z;omega
  .intro z;omega),?_⟩
 by_cases hk:f.k≠0
 .rw[decide_eq_true hk]at k2 ⊢;exact aT (k2 rfl)
 .rw[decide_eq_false hk]at k1 ⊢;exact a9 (k1 rfl _)
theorem yC:("<":Str)=sg [60]:=by decide +kernel
theorem MC:("</":Str)=sg [60,47]:=by decide +kernel
def xw(m:Mat)(as:List (B×B)):Option Mat:=match attr as "transform" with
 |some v=>Sg35.turned m v
 |none=>some m
theorem F5:TxB ("":Str) []:=⟨by decide +kernel,by decide,fun c hc=>by simp at hc⟩
theorem vb(m:Mat):Sg35.turned m []=some m:=by rw[eK];rfl
theorem YA{H:Hp}{d:Addr}{as:List (B×B)}(hat:gQ H d as)(m:Mat):∃(y:Str)(v:B),fY H d (.str "transform") (dJ (atK as) (Sum.inr "transform"))/\(dJ (atK as) (Sum.inr "transform")).getD (.str "")=.str y/\TxB y v/\xw m as=Sg35.turned m v:=by
 have hg:fY H d (.str "transform") (dJ (atK as) (Sum.inr "transform")):=fY.k (k:=Sum.inr "transform") hat.1;unfold xw;cases hv:attr as "transform" with
 |none=>exact⟨"",[],hg,by rw[ik,hv];rfl,F5,(vb m).symm⟩
 |some v=>exact⟨_,v,hg,by rw[ik,hv];rfl,Ag hat hv,rfl⟩
theorem jP(s:Style)(as:List (B×B)):styled s as true=(gj s.fill s.odd as).bind fun fo=>(xw s.mat as).map fun m=>⟨fo.1,fo.2,m⟩:=by
 have e:styled s as true=(fi s.fill as).bind fun fill=>(fF s.odd as).bind fun odd=>(xw s.mat as).bind fun mat=>some (⟨fill,odd,mat⟩:Style):=by
  unfold styled fi fF xw;rfl
 rw[e];unfold gj;cases fi s.fill as with
 |none=>rfl
 |some f=>
  cases fF s.odd as with
  |none=>rfl
  |some o=>cases xw s.mat as<;>rfl
theorem vj(s:Style)(as:List (B×B)):styled s as false=(gj s.fill s.odd as).map fun fo=>⟨fo.1,fo.2,s.mat⟩:=by
 have e:styled s as false=(fi s.fill as).bind fun fill=>(fF s.odd as).bind fun odd=>some (⟨fill,odd,s.mat⟩:Style):=by
  unfold styled fi fF;rfl
 rw[e];unfold gj;cases fi s.fill as with
 |none=>rfl
 |some f=>cases fF s.odd as<;>rfl
theorem EZ{n:B}(h:n∉bj)(as:List (B×B)):Sg35.kindOf n as=none:=by
 unfold bj at h;simp only[mem_cons,not_mem_nil,or_false,not_or]at h;unfold Sg35.kindOf;rw[if_neg h.1,if_neg h.2.1,if_neg (by rintro(z|z);exact h.2.2.1 z;exact h.2.2.2.1 z),if_neg h.2.2.2.2]
theorem FQ{f:Sg35.Fr}{n:B}(h:jq f n=false)(as:List (B×B)):child f n as=none:=by
 unfold jq at h;unfold child;cases hs:f.shape with
 |true=>rfl
 |false=>
  rw[hs]at h;simp only[Bool.not_false,Bool.true_and,Bool.or_eq_false_iff,decide_eq_false_iff_not,Bool.and_eq_false_iff]at h;rw[if_neg Bool.false_ne_true];by_cases hg:n=ascii "g"
  .rw[if_pos hg,if_pos];have:=h.2.resolve_left fun z=>z hg
   simpa using this
  .rw[if_neg hg,EZ h.1];rfl
theorem Wo:ascii "g"∉bj:=by decide +kernel
theorem Su(ee:T.pj)(uP:T.J4)(KW:T.Qg)(Lg:T.Qp)(uO:T.J3)(KH:T.P2)(KY:T.Qh)(uU:T.Kb):T.P4:=by
 refine T.NI.fn.bz vF fun H Q E hr h=>?_
 obtain⟨r,hl,p,l,q,F,hs,ss,fs,f,wd,ht,shs,rfl,hR,yI,jj,hF0,hF1,nrh,nrp,nrl,nhp,nhl,npl,hsz,k1,k2⟩:=h;refine⟨_,(aa (aK (aM (pv 0) T.ar T.gd ee hr T.lA ay (pa1 aN)))
   (aa (aw 3 vF.nd (pcD uP hr T.Ge ay (pa1 (pv 0))))
   (aa (aK (pcD KW hr T.NP ay (ai (pv 3) (pa1 (pv 1)))))
   (aa (aw 4 vF.nd (pcD Lg hr T.NY ay (ai (ax (az bh (pv 1) (ju fZ ag))) (pa1 (mF (gZ hr) (ax (pv 3)) aN aN ⟨rfl,rfl,rfl,rfl⟩)))))
   (aa (aw 5 vF.nd (pcD uO hr T.Gd ay (ai (ax (az bh (pv 1) (ju fZ ag))) (pa1 (ax (pv 3))))))
   (aa (aR (aF iB (ax (pv 3)) (i6 (v:=.ref _) (by rfl) T.iK rfl)) (ah (aK (iA PySem.F.plainAttrs_list PySem.F.slot_list_append PySem.F.type_list_append eN (ax (pv 2)) (pa1 (bW T.Iq KH hr T.EO T.JP ay (ai (pcD KY hr T.NQ ay (ai (ax (pv 3)) (pa1 (ax (pv 3))))) (ai (pv 4) (pa1 (pv 5))))))))) aI)
   (ah (aR (gb (cV (ax (pv 3)))) (ah (aK (iA PySem.F.plainAttrs_list PySem.F.slot_list_append PySem.F.type_list_append eN (pv 1) (pa1 (bW T.uj uU hr T.rf T.DI ay (ai (ax (pv 3)) (ai (pv 4) (pa1 (pv 5))))))))) aI)))))))),?_⟩
 dsimp only[bq];refine je rfl hR yC (by decide) (fun t e H1 kp1 hR1=>?_) (fun hno=>k1 fun t g e=>absurd e (hno t));subst e;refine⟨_,rfl,r,t,rfl,hR1,fun hn=>k1 fun t' g' e' hg'=>?_,fun g tg hg XA H2 kp2 hR2 l4=>?_⟩
 .have e2:t=t':=(List.cons.inj (show 60::t=60::t' from e')).2;subst e2;rw[hn]at hg';cases hg'
 have k1':child f g.name g.attrs=none->bp a E:=fun hc=>k1 fun t' g' e' hg'=>by
  have e2:t=t':=(List.cons.inj (show 60::t=60::t' from e')).2;subst e2;rw[hg]at hg';cases hg';exact hc
 have K2:af [r] H H2:=kp1.trans kp2;have hFr:∀x,F x->x∉[r]:=fun x hx=>by simpa using (hF1 x hx).1
 have rK:=yI.keep K2 (by simpa using nrh.symm) hFr;have oV:=jj.keep K2 (by simpa using nrp.symm) (by simpa using nrl.symm) hFr;refine⟨_,rfl,_,rfl,tg,hl,g.name,g.attrs,g.cq,F,hs,fs,f,rfl,l4,rK,fun Up=>k1' (FQ Up _),fun hok=>?_⟩;obtain⟨dxt,d,hg2,tR,hnm⟩:=id l4;obtain⟨hs0,x,rfl,ho0,dxh,my,yy,e1,e2,e3,e4,e5,e6,e7,e8⟩:=gB rK.ho;obtain⟨y1,v1,g1,d1,t1,n1⟩:=YA tR f.cR.mat;have hsf:f.shape=false:=by
  unfold jq at hok;rw[Bool.and_eq_true]at hok;simpa using hok.1
 have Pq:atI ((hs0++[x]).map V.ref) (-1)=some (V.ref x):=by rw[map_append];exact gP _ _
 have Ic:styled f.cR g.attrs true=none->child f g.name g.attrs=none:=fun hs=>by
  unfold child;rw[if_neg (by rw[hsf];exact Bool.false_ne_true),hs];split
  .split<;>rfl
  .cases Sg35.kindOf g.name g.attrs<;>rfl
 refine⟨_,rfl,_,rfl,_,_,_,V.ref x,rfl,rfl,SqL.of rK.lst,Pq,x,a.cj,dxh,_,_,rfl,e1,T.fO,T.iE,BG,_,rfl,tg,a.fk,dxt,_,_,rfl,hg2,T.dW,T.bI,cS,d,rfl,.inl ⟨_,.inl tR.1⟩,_,g1,
  my,f.cR.mat,y1,v1,(by rw[d1];rfl),e4,e5,t1,fun hn=>k1' (Ic (by rw[jP,n1,hn];cases gj f.cR.fill f.cR.odd g.attrs<;>rfl)),fun m' mt H3 hm' kp3 hmt hms=>?_⟩
 have hm3:xw f.cR.mat g.attrs=some m':=n1.trans hm';have ux:=rK.keep kp3 (by simp) (fun _ _=>by simp);refine⟨_,rfl,_,rfl,_,_,_,V.ref x,rfl,rfl,SqL.of ux.lst,Pq,x,a.cj,dxh,_,_,rfl,kp3.at e1,T.fO,T.jw,Fh,_,rfl,tg,a.fk,dxt,_,_,rfl,kp3.at hg2,T.dW,T.bI,cS,
  yy,d,f.cR.fill,f.cR.odd,g.attrs,rfl,e6.keep kp3 (by simp),tR.keep kp3,fun hn=>k1' (Ic (by rw[jP,hn];rfl)),fun f' o' st H4 hfo kp4 IS VZ=>?_⟩
 have IQ:styled f.cR g.attrs true=some ⟨f',o',m'⟩:=by rw[jP,hfo];show(xw f.cR.mat g.attrs).map _=_;rw[hm3];rfl
 have k24:af [] H2 H4:=kp3.trans kp4;have K4:af [r] H H4:=K2.trans k24.up;have uw:=rK.keep k24 (by simp) (fun _ _=>by simp);have jx:=oV.keep k24 (by simp) (by simp) (fun _ _=>by simp);have hR4:=hR2.eC k24;have VX:=l4.keep k24;have MO:dY K H4 mt m':=kp4.sqT hmt;have fresh:∀{G:Hp}{z:Addr},af [r,l] H G->RdR a G r g.rest->(∃o,G l=some o)->G z=none->F z:=fun{G z} kG hRG hlG hz=>hF0 z (kG.free hz (by
  obtain⟨o,ho⟩:=hlG;have:=hRG.ne hz;have h2:=ak ho hz;simp only[mem_cons,not_mem_nil,or_false,not_or]
  exact⟨this.symm,h2.symm⟩))
 have Ur:F st:=by
  refine fresh (G:=H3) ((K2.trans kp3.up).mono (fun z hz=>by simp at hz;simp[hz])) (hR2.eC kp3) ⟨_,kp3.at oV.lst⟩ IS
 have rl:∀{z:Addr},z∈[r]->z∈[r,l]:=fun hz=>by simp at hz;simp[hz]
 have YQ:g.rest.length+1<t.length:=Sg35.eM hg;have YU:shs.length+(t.length+1)<=65600:=by simpa using hsz
 have fin:∀(G:Hp)(ss':List Addr)(c:Sg35.Fr×List Sg35.Shape),child f g.name g.attrs=some c->c.1.name=g.name->c.1.cR=⟨f',o',m'⟩->(c.1.shape=true↔g.name∈bj)->(c.1.shape=false->c.1.k+1=f.k)->af [r,l] H G->af [l] H4 G->gk a K F G hl (hs0++[x]) (fs++[f])->eR a K F G p l ss' wd ht (shs++c.2)->
   U2 (UZ (tB (LH K (cU 3) "closed"))) (CO (tBM K "list" vQ (cU 1) (cb (oM a.cj (jS a) [] E (cb (LH K (cU 3) "name") (cb (cU 4) (cb (cU 5) fE)))) fE))) Gn {nx:=fun _ H'=>Q .non H',rt:=Q} [some (.ref r),some (.ref hl),some (.ref p),some (.ref tg),some (.ref mt),some (.ref st)] G:=by
  intro G ss' c hc hcn hcs Yl hck kG k4G Dx IU;have hlG:∃o,G l=some o:=⟨_,IU.lst⟩;have Xz:tg≠l:=by
   obtain⟨_,_,e,_⟩:=VX;exact iC e jx.lst (by intro z;cases z)
  have hgG:=k4G.one (k24.at hg2) Xz;have hRG:RdR a G r g.rest:=hR4.keep k4G (by simpa using nrl);refine⟨_,rfl,tg,a.fk,dxt,_,_,rfl,hgG,T.dW,T.ic,pV,_,rfl,?_⟩;have kk:=k2 t g c rfl hg hc;cases hsh:g.cq with
  |true=>
   refine aT (kk (hs0++[x]) ss' G (kG.mono fun z hz=>by simp at hz;rcases hz with rfl|rfl<;>simp) hRG ?_ IU);rw[hsh,if_pos rfl];exact Dx
  |false=>
   refine a9 ⟨_,rfl,.inl ⟨rfl,_,SqL.of Dx.lst⟩,_,rfl,tg,a.fk,dxt,_,_,rfl,hgG,T.dW,T.dR,iu,_,rfl,_,rfl,fun z dz hz hdz hne=>⟨z,dz,_,_,_,rfl,ae,fun G2 TF h5=>⟨rfl,?_⟩⟩⟩;have kp5:af [] G G2:=af.made hz hdz TF;have Yk:=yI.dep fs.length f (by simp) hsf;have hfl:fs.length<=17:=by omega
   have hlen:(hs0++[x]).length<=18:=by rw[Paired.length Dx.ho,length_append];simp only[length_cons,length_nil];omega
   have rH:=Dx.keep kp5 (by simp) (fun _ _=>by simp);have mS:=IU.keep kp5 (by simp) (by simp) (fun _ _=>by simp);refine⟨hl,_,_,rfl,rfl,rH.lst,(by rw[length_map,sizeLine_eq];omega),?_⟩;have hFz:F z:=fresh kG hRG hlG hz;have XD:nA a G2 st f' o':=(VZ.keep k4G (by simpa using (hF1 st Ur).2.2.2)).keep kp5 (by simp);have hho:tW a K F G2 z c.1:=⟨dz,mt,st,by rw[hcn];exact h5,hFz,Ur,by rw[hcs];exact kp5.sqT (k4G.sqT MO),by rw[hcs];exact hms,by rw[hcs];exact XD,by rw[hcn];exact hnm,by rw[hcn];exact Yl⟩;have VY:=rH.push (x:=z) (f:=c.1) hho (fun y hy=>(hF1 y hy).2.1) (by rw[length_append];simp only[length_cons,length_nil];omega) (fun hs=>by have:=hck hs;rw[length_append];simp only[length_cons,length_nil];omega);have k7:af [hl] G2 (upd G2 hl (.lst ((hs0++[x]).map V.ref++[V.ref z]))):=af.set (by simp) (by rw[rH.lst];exact trivial);refine kk (hs0++[x]++[z]) ss' _ ?_ ((hRG.eC kp5).keep k7 (by simpa using nrh)) ?_ (mS.keep k7 (by simpa using nhp.symm) (by simpa using nhl.symm) (fun y hy=>by simpa using (hF1 y hy).2.1))
   .exact((kG.mono fun z hz=>by simp at hz;rcases hz with rfl|rfl<;>simp).trans kp5.up).trans (k7.mono fun z hz=>by simp at hz;simp[hz])
   .rw[hsh,if_neg Bool.false_ne_true];exact VY
 obtain⟨dxp,hp4⟩:=jx.ob;refine⟨_,rfl,tg,a.fk,dxt,_,_,rfl,k24.at hg2,T.dW,T.dR,iu,_,_,rfl,.inr (T.iG _),rfl,rfl,decide (g.name∈bj),congrArg V.bl (rG _),?_⟩;by_cases hn:g.name∈bj
 .have hng:g.name≠ascii "g":=fun z=>Wo (by rw[<-z];exact hn)
  have hch:child f g.name g.attrs=(Sg35.kindOf g.name g.attrs).map fun kd=>(⟨g.name,true,0,⟨f',o',m'⟩⟩,[⟨kd,f',o',m'⟩]):=by
   unfold child;rw[if_neg (by rw[hsf];exact Bool.false_ne_true),if_neg hng,IQ];cases Sg35.kindOf g.name g.attrs<;>rfl
  refine dT hn ⟨_,rfl,p,a.bb,dxp,_,_,rfl,hp4,T.dj,T.fb,qO,.inl ⟨rfl,_,SqL.of jx.lst⟩,_,rfl,tg,a.fk,dxt,_,_,rfl,k24.at hg2,T.dW,T.dR,iu,_,rfl,tg,a.fk,dxt,_,_,rfl,k24.at hg2,T.dW,T.bI,cS,
   d,_,g.name,g.attrs,rfl,rfl,hn,tR.keep k24,fun hk=>k1' (by rw[hch,hk];rfl),fun kd fg H5 hkd kp5 Fn=>⟨_,rfl,_,rfl,fun sh dsh hsh Yi hne=>⟨sh,dsh,_,_,_,rfl,ae,fun H6 TC h6=>⟨rfl,?_⟩⟩⟩⟩
  have kp6:af [] H5 H6:=af.made hsh Yi TC;have k46:af [] H4 H6:=kp5.trans kp6;have K4':af [r,l] H H4:=K4.mono fun z hz=>rl hz
  have mS:=jx.keep k46 (by simp) (by simp) (fun _ _=>by simp);have rH:=uw.keep k46 (by simp) (fun _ _=>by simp);refine⟨l,_,_,rfl,rfl,mS.lst,(by rw[length_map,Paired.length mS.sh,sizeLine_eq];have:=mS.few;omega),?_⟩;have hF5:∀{z:Addr},H4 z=none->F z:=fun hz=>fresh K4' hR4 ⟨_,jx.lst⟩ hz
  have Yy:F sh:=fresh (K4'.trans kp5.up) (hR4.eC kp5) ⟨_,kp5.at jx.lst⟩ hsh;have XI:xi a K F H6 sh ⟨kd,f',o',m'⟩:=⟨dsh,fg,mt,st,h6,Yy,Ur,(jD.imp Fn fun z hz=>hF5 hz).keep kp6 (fun _ _=>by simp),k46.sqT MO,hms,VZ.keep k46 (by simp)⟩;have V1:=mS.push XI npl (fun y hy=>(hF1 y hy).2.2.2) (by omega);have k7:af [l] H6 (upd H6 l (.lst (ss.map V.ref++[V.ref sh]))):=af.set (by simp) (by rw[mS.lst];exact trivial);refine fin _ (ss++[sh]) (⟨g.name,true,0,⟨f',o',m'⟩⟩,[⟨kd,f',o',m'⟩]) (by rw[hch,hkd];rfl) rfl rfl ⟨fun _=>hn,fun _=>rfl⟩ (nomatch ·) ?_ (k46.up.trans k7) (rH.keep k7 (by simpa using nhl) (fun y hy=>by simpa using (hF1 y hy).2.2.2)) V1;exact(K4'.trans k46.up).trans (k7.mono fun z hz=>by simp at hz;simp[hz])
 .rw[decide_eq_false hn];unfold jq at hok;rw[Bool.and_eq_true,Bool.or_eq_true,decide_eq_true_eq,Bool.and_eq_true,decide_eq_true_eq,decide_eq_true_eq]at hok;obtain⟨hgn,hk0⟩:=hok.2.resolve_left hn;have hch:child f g.name g.attrs=some (⟨g.name,false,f.k-1,⟨f',o',m'⟩⟩,[]):=by
   unfold child;rw[if_neg (by rw[hsf];exact Bool.false_ne_true),if_pos hgn,if_neg hk0,IQ];rfl
  refine aT (fin H4 ss _ hch rfl rfl ⟨(nomatch ·),fun h=>absurd h hn⟩ (fun _=>by show f.k-1+1=f.k;omega) (K4.mono fun z hz=>rl hz) af.refl uw (by rw[append_nil];exact jx))
theorem gk.pop{F:Addr->Prop}{H:Hp}{hl x:Addr}{hs:List Addr}{fs:List Sg35.Fr}{f:Sg35.Fr}(z:gk a K F H hl (hs++[x]) (fs++[f]))(hF:∀x,F x->x≠hl):
  gk a K F (upd H hl (.lst ((hs++[x]).map V.ref).dropLast)) hl hs fs:=by
 obtain⟨hs',x',e,h1,h2⟩:=gB z.ho;have e':=List.append_inj_left' e rfl;subst e';have k1:af [hl] H (upd H hl (.lst ((hs++[x]).map V.ref).dropLast)):=af.set (by simp) (by rw[z.lst];exact trivial);refine⟨by rw[ae,map_append];simp,Paired.rn h1 fun _ _ q=>tW.keep q k1 (fun y hy=>by simpa using hF y hy),?_,fun i g hg hsh=>?_⟩
 .have:=z.few;rw[length_append]at this;simp only[length_cons,length_nil]at this;omega
 .refine z.dep i g ?_ hsh;rw[List.getElem?_append_left (List.getElem?_eq_some_iff.mp hg).1];exact hg
theorem wN{c:Nat}(h:inName c=true):33<=c/\c<=126/\c≠37/\c≠63:=by
 unfold inName letter digit at h;simp only[Bool.or_eq_true,Bool.and_eq_true,decide_eq_true_eq,beq_iff_eq]at h;omega
theorem Tp:Nm (ascii "svg"):=⟨⟨115,[118,103],by decide +kernel,by decide⟩,by decide +kernel,by decide +kernel⟩
theorem LK:ascii "svg"∉bj:=by decide +kernel
theorem EB:Small Mat.one:=by
 intro z hz;simp only[Mat.one,mem_cons,not_mem_nil,or_false]at hz;rcases hz with rfl|rfl|rfl|rfl|rfl|rfl<;>decide
theorem Dz{f:Sg35.Fr}{fs:List Sg35.Fr}:(fs++[f]).reverse=f::fs.reverse:=by rw[List.reverse_append];rfl
theorem SI(uU:T.Kb)(sT:T.Kj)(gn:T.uN)(ee:T.pj)(KI:T.P4):T.Qe:=by
 refine T.NO.fn.bz GF fun H Q E hr h=>?_
 obtain⟨r,p,l,y,q,wd,ht,st,rfl,hR,jj,IQ,V5,nyr,nyp,nyl,nrp,nrl,npl,hlen,k1,k2⟩:=h;refine⟨_,(aa (aw 3 GF.nd (cW (pa1 (bW T.uj uU hr T.rf T.DI ay (ai aN (ai (i6 (v:=.ref _) (by rfl) T.l6 rfl) (pa1 (pv 2))))))))
   (ah (eu (aF jX (aL aP T.cC (pa1 (pv 3))) ag) (aa (aK (pcD sT hr T.CM ay (pa1 (pv 0))))
   (ah (aR (cV (aM (pv 0) T.ar T.gL gn hr T.ni ay (pa1 aN))) (ah (aK (aM (pv 0) T.ar T.gd ee hr T.lA ay (pa1 (ao qS (ax (i7 PySem.F.plainAttrs_list PySem.F.slot_list_pop PySem.F.type_list_pop Tq (pv 3))) aN))))) (ah (aK (pcD KI hr T.NI ay (ai (pv 0) (ai (pv 3) (pa1 (pv 1))))))))))))),?_⟩
 dsimp only[bq];refine⟨_,rfl,fun h0 dh hh0 hdh hne=>⟨h0,dh,_,_,_,rfl,ae,fun H1 Xq e1=>⟨rfl,sl1,fun hl hhl=>?_⟩⟩⟩;have kp1:af [] H H1:=af.made hh0 hdh Xq;have k2':af [] H1 (upd H1 hl (.lst [V.ref h0])):=af.new hhl;have hl2:(upd H1 hl (.lst [V.ref h0])) hl=some (.lst [V.ref h0]):=ae;generalize upd H1 hl (.lst [V.ref h0])=H2 at k2' hl2 ⊢;have K2:af [] H H2:=kp1.trans k2';obtain⟨dxp,hp0⟩:=jj.ob;have Fm:H hl=none:=kp1.bP hhl;have HZ:r≠hl:=hR.ne Fm;have Vt:p≠hl:=ak hp0 Fm;have Vz:l≠hl:=ak jj.lst Fm;have Xe:y≠hl:=by obtain⟨_,e⟩:=IQ;exact ak e Fm
 have VA:h0≠hl:=ak e1 hhl;have Xg:h0≠r:=(hR.ne hh0).symm;have Xh:h0≠p:=(ak hp0 hh0).symm;have Xi:h0≠l:=(ak jj.lst hh0).symm;generalize hFd:(fun x:Addr=>x≠r/\x≠hl/\x≠p/\x≠l)=F;have hF1:∀x,F x->x≠r/\x≠hl/\x≠p/\x≠l:=fun x hx=>by rw[<-hFd]at hx;exact hx
 have hFi:∀x,(x≠r/\x≠hl/\x≠p/\x≠l)->F x:=fun x hx=>by rw[<-hFd];exact hx
 have hho:tW a K F H2 h0 ⟨ascii "svg",false,17,st⟩:=⟨dh,a.iI,y,by rw[<-lit];exact k2'.at e1,hFi _ ⟨Xg,VA,Xh,Xi⟩,hFi _ ⟨nyr,Xe,nyp,nyl⟩,by rw[V5];exact T.lZ H2,by rw[V5];exact EB,IQ.keep K2 (by simp),Tp,⟨(nomatch ·),fun z=>absurd z LK⟩⟩;have rK:gk a K F H2 hl [h0] [⟨ascii "svg",false,17,st⟩]:=⟨hl2,.cons hho .nil,by simp,fun i g hg _=>by
  cases i with
  |zero=>simp at hg;subst hg;rfl
  |succ i=>simp at hg⟩
 have oV:eR a K F H2 p l [] wd ht []:=⟨⟨dxp,K2.at hp0⟩,K2.at jj.lst,.nil,by simp⟩;generalize hX:Sg35.run [⟨ascii "svg",false,17,st⟩] q=X at k1 k2;refine⟨fun m Y H'=>∃(t:B)(hs:List Addr)(fs:List Sg35.Fr)(ss:List Addr)(shs:List Sg35.Shape),Y=[some (.ref r),some (.ref p),some (.ref y),some (.ref hl)]/\af [r,l] H H'/\RdR a H' r t/\gk a K F H' hl hs fs/\eR a K F H' p l ss wd ht shs/\shs.length+t.length<=65600/\
  X=(Sg35.run fs.reverse t).map (fun z=>(shs++z.1,z.2))/\m=t.length,⟨_,q,[h0],[⟨ascii "svg",false,17,st⟩],[],[],rfl,K2.up,hR.eC K2,rK,oV,by have:=hR.len;simpa using this,?_,rfl⟩,?_⟩
 .show X=(Sg35.run [_] q).map _;rw[hX];cases X<;>rfl
 rintro m Y H3 ⟨t,hs,fs,ss,shs,rfl,K3,hR3,ux,Pl,hsz,gR,rfl⟩;refine⟨_,rfl,hl,_,rfl,.inl (SqL.of ux.lst),_,_,rfl,rfl,decide (0<fs.length),congrArg V.bl (by
  rw[length_map,Paired.length ux.ho,Bool.eq_iff_iff,decide_eq_true_eq,decide_eq_true_eq]
  omega),?_⟩
 by_cases hfs:fs=[]
 .subst hfs;refine aT ?_;refine k2 shs t ss F H3 ?_ K3 hR3 Pl (fun x hx=>⟨(hF1 x hx).1,(hF1 x hx).2.2.1,(hF1 x hx).2.2.2⟩);rw[gR];show(Sg35.run [] t).map _=_;rw[Sg35.C6];simp
 rw[decide_eq_true (length_pos_iff.mpr hfs)];obtain⟨fs0,f,rfl⟩:∃D e,fs=D++[e]:=⟨fs.dropLast,fs.getLast hfs,(List.dropLast_concat_getLast hfs).symm⟩;obtain⟨hs0,x,rfl,ho0,hox⟩:=gB ux.ho;obtain⟨dxh,my,yy,f1,f2,f3,f4,f5,f6,f7,f8⟩:=id hox;rw[Dz,Sg35.xU]at gR;refine a9 ⟨fun Y' H'=>∃(t':B)(hs:List Addr)(fs:List Sg35.Fr)(ss:List Addr)(shs:List Sg35.Shape),Y'=[some (.ref r),some (.ref p),some (.ref y),some (.ref hl)]/\af [r,l] H H'/\RdR a H' r t'/\gk a K F H' hl hs fs/\eR a K F H' p l ss wd ht shs/\shs.length+t'.length<=65600/\
  X=(Sg35.run fs.reverse t').map (fun z=>(shs++z.1,z.2))/\t'.length<t.length,fun Y' H' ⟨t',hs,fs,ss,shs,g1,g2,g3,g4,g5,g6,g7,g8⟩=>⟨_,g8,t',hs,fs,ss,shs,g1,g2,g3,g4,g5,g6,g7,rfl⟩,?_⟩
 refine⟨_,rfl,r,t,rfl,hR3,fun hn=>k1 (by rw[gR,hn];rfl),fun t1 ht1 H4 kp4 hR4=>?_⟩;rw[ht1]at gR;dsimp only[bind_some]at gR;have hml:=Sg35.d6 ht1;have hFr:∀x,F x->x∉[r]:=fun x hx=>by simpa using (hF1 x hx).1
 have uw:=ux.keep kp4 (by simpa using HZ.symm) hFr;have jx:=Pl.keep kp4 (by simpa using nrp.symm) (by simpa using nrl.symm) hFr;have K4:af [r,l] H H4:=K3.trans (kp4.mono fun z hz=>by simp at hz;simp[hz]);refine lX rfl hR4 MC (by decide) (fun t2 e2 H5 kp5 hR5=>⟨_,rfl,a9 ?_⟩) (fun hno=>⟨_,rfl,aT ?_⟩)
 .subst e2;rw[show Sg35.met ([60,47]++t2)=some (.cq t2)from rfl]at gR;dsimp only[bind_some]at gR;rw[Sg35.xb f7.1 f7.2.1]at gR;have rJ:=uw.keep kp5 (by simpa using HZ.symm) hFr;have IV:=jx.keep kp5 (by simpa using nrp.symm) (by simpa using nrl.symm) hFr;have K5:af [r,l] H H5:=K4.trans (kp5.mono fun z hz=>by simp at hz;simp[hz]);obtain⟨dxr,fsr,hr5,XX⟩:=hR5.ins;obtain⟨YV,x',ex,_,YF,my5,yy5,g1,_,_,_,_,_,_,_⟩:=gB rJ.ho;have ex1:=List.append_inj_right' ex rfl;injection ex1 with ex1 _
  subst ex1;have kp6:af [hl] H5 (upd H5 hl (.lst ((hs0++[x]).map V.ref).dropLast)):=af.set (by simp) (by rw[rJ.lst];exact trivial);have hR6:RdR a (upd H5 hl (.lst ((hs0++[x]).map V.ref).dropLast)) r t2:=hR5.keep kp6 (by simpa using HZ);have g6:=kp6.one g1 (hF1 _ f2).2.1;have rH:=rJ.pop (fun x hx=>(hF1 x hx).2.1);have mS:=IV.keep kp6 (by simpa using Vt) (by simpa using Vz) (fun x hx=>by simpa using (hF1 x hx).2.1);have K6:af [r,l] H (upd H5 hl (.lst ((hs0++[x]).map V.ref).dropLast)):=af.grow K5 kp6 (fun z hz=>.inr (by rw[mem_singleton.mp hz];exact Fm));have hnl:=f7.2.2;refine⟨_,rfl,r,dxr,fsr,rfl,hr5,XX _ (by decide +kernel) (by decide +kernel),_,rfl,.inl ⟨rfl,_,SqL.of rJ.lst⟩,hl,_,V.ref x,rfl,rfl,rJ.lst,(by rw[map_append];simp),x,a.cj,YF,_,_,rfl,g6,T.fO,T.gJ,yJ,_,_,rfl,rfl,?_,?_⟩
  .rw[bT,rB,bT,sizeLine_eq];simp only[length_cons,length_nil];omega
  have XJ:sg f.name++(">":Str)=sg (f.name++[62]):=by rw[rB,GA]
  generalize upd H5 hl (.lst ((hs0++[x]).map V.ref).dropLast)=H6 at *;have rN:(t2.take (f.name.length+1)=f.name++[62])↔∃u,t2=(f.name++[62])++u:=by
   have:=eL (w:=f.name++[62]) (l:=t2);rw[length_append]at this;exact this
  refine⟨r,t2,_,f.name++[62],rfl,hR6,XJ,?_,by simp,?_,fun u hu H7 kp7 hR7=>?_,fun hnu=>k1 ?_⟩
  .intro d hd;rcases mem_append.mp hd with hd|hd
   .exact wN (f7.2.1 d hd)
   .rw[mem_singleton.mp hd];decide
  .have h9:=hR5.len;have h8:f.name.length<=65600:=hnl;rw[length_append,length_cons,length_nil];omega
  .rw[if_pos (rN.mpr ⟨u,hu⟩)]at gR;have IZ:t2.drop (f.name.length+1)=u:=by
    rw[hu,show f.name.length+1=(f.name++[62]).length by simp,List.drop_left]
   rw[IZ]at gR;have hul:=congrArg List.length hu;rw[length_append]at hul;have YT:t2.length+2<=t.length:=by simpa using hml
   refine⟨u,hs0,fs0,ss,shs,rfl,K6.trans (kp7.mono fun z hz=>by simp at hz;simp[hz]),hR7,rH.keep kp7 (by simpa using HZ.symm) hFr,mS.keep kp7 (by simpa using nrp.symm) (by simpa using nrl.symm) hFr,by omega,gR,by omega⟩
  .rw[gR,if_neg (fun z=>by obtain⟨u,hu⟩:=rN.mp z;exact hnu u hu)];rfl
 .have V4:∀u,t1=60::u->Sg35.met t1=(cT u).map .tag:=fun u hu=>by
   rw[hu];exact Sg35.Dp fun v hv=>hno v (by rw[hu,hv];rfl)
  have hF0:∀x,H4 x=none->F x:=fun x hx=>hFi x ⟨(hR4.ne hx).symm,(ak uw.lst hx).symm,(by obtain⟨_,e⟩:=jx.ob;exact(ak e hx).symm),(ak jx.lst hx).symm⟩
  refine⟨_,rfl,_,rfl,_,rfl,r,hl,p,l,t1,F,hs0++[x],ss,fs0,f,wd,ht,shs,rfl,hR4,uw,jx,hF0,hF1,HZ,nrp,nrl,Vt.symm,Vz.symm,npl,by omega,fun hn=>k1 ?_,fun u g c hu hg hc hs' ss' H5 kp5 hR5 rJ IV=>?_⟩
  .rw[gR];by_cases h6:∃u,t1=60::u
   .obtain⟨u,hu⟩:=h6;rw[V4 u hu];cases hg:cT u with
    |none=>rfl
    |some g=>
     show(((child f g.name g.attrs).bind _).map _)=none;rw[hn u g hu hg];rfl
   .rw[Sg35.Iu fun u hu=>h6 ⟨u,hu⟩];rfl
  .rw[V4 u hu,hg]at gR;have IT:X=(((child f g.name g.attrs).bind fun c=>(Sg35.run (if g.cq=true then f::fs0.reverse else c.1::f::fs0.reverse) g.rest).map fun z=>(c.2++z.1,z.2))).map (fun z=>(shs++z.1,z.2)):=gR;rw[hc]at IT;dsimp only[bind_some]at IT;have hgl:=Sg35.eM hg;have hul:=congrArg List.length hu;simp only[length_cons]at hul;have hc2:c.2.length<=1:=by
    unfold child at hc;split at hc
    .cases hc
    .split at hc
     .split at hc
      .cases hc
      .cases hss:styled f.cR g.attrs true with
       |none=>rw[hss]at hc;cases hc
       |some z=>rw[hss]at hc;cases hc;simp
     .cases hkk:Sg35.kindOf g.name g.attrs with
      |none=>rw[hkk]at hc;cases hc
      |some kd=>
       rw[hkk]at hc;dsimp only[bind_some]at hc;cases hss:styled f.cR g.attrs true with
       |none=>rw[hss]at hc;cases hc
       |some z=>rw[hss]at hc;cases hc;simp
   refine⟨g.rest,hs',_,ss',shs++c.2,rfl,af.grow K4 kp5 (fun z hz=>?_),hR5,rJ,IV,by rw[length_append];omega,?_,by omega⟩
   .simp only[mem_cons,not_mem_nil,or_false]at hz;rcases hz with rfl|rfl|rfl
    .exact .inl (by simp)
    .exact .inr Fm
    .exact .inl (by simp)
   .rw[IT];have er:(if g.cq=true then fs0++[f]else fs0++[f]++[c.1]).reverse=(if g.cq=true then f::fs0.reverse else c.1::f::fs0.reverse):=by
     split
     .exact Dz
     .rw[Dz,Dz]
    rw[er,Option.map_map];congr 1
    funext z
    simp
theorem S3(fC:T.sM)(sT:T.Kj)(ee:T.pj)(uP:T.J4)(KJ:T.P5)(uO:T.J3)(uR:T.J8)(KU:T.Qe)(jB:T.Am):T.Qt:=by
 refine T.N0.fn.bz qw fun H Q E hr h=>?_
 obtain⟨x,b,rfl,hx,k1,k2⟩:=h;refine⟨_,(aa (aw 1 qw.nd (bW T.gC fC hr T.fL T.pf ay (pa1 (pv 0))))
   (aa (aK (pcD sT hr T.CM ay (pa1 (pv 1))))
   (aa (aK (aM (pv 1) T.ar T.gd ee hr T.lA ay (pa1 aN)))
   (aa (aw 2 qw.nd (pcD uP hr T.Ge ay (pa1 (pv 1))))
   (aa (aw 3 qw.nd (pcD KJ hr T.NJ ay (pa1 (pv 2))))
   (aa (aw 4 qw.nd (pcD uO hr T.Gd ay (ai (bW T.yt uR hr T.um T.DH ay (ai (aB T.Jt) (pa1 (aB T.si)))) (pa1 (ax (pv 2))))))
   (aa (aR (gb (cV (ax (pv 2)))) (ah (aK (pcD KU hr T.NO ay (ai (pv 1) (ai (pv 3) (pa1 (pv 4))))))) aI)
   (aa (aK (pcD sT hr T.CM ay (pa1 (pv 1))))
   (aa (aK (eA (pv 1) T.ar T.ka jB hr T.uJ ay))
   (ah (aD (pv 3)))))))))))),?_⟩
 dsimp only[bq];refine eO (fun Q q=>⟨_,rfl,q⟩) hx fun r H1 hr1 kp1 hR1=>?_
 refine⟨_,rfl,r,b,rfl,hR1,fun hn=>k1 (by unfold pic;rw[hn];rfl),fun t ht H2 kp2 hR2=>?_⟩;have Pn:pic b=Sg35.mC t:=by unfold pic;rw[ht];rfl
 refine je rfl hR2 yC (by decide) (fun t1 e1 H3 kp3 hR3=>?_) (fun hno=>k1 (by rw[Pn,Sg35.qL fun q hq=>hno q hq]));subst e1;have Pm:pic b=(cT t1).bind i5:=Pn;refine⟨_,rfl,r,t1,rfl,hR3,fun hn=>k1 (by rw[Pm,hn];rfl),fun g tg hg XA H4 kp4 hR4 l4=>?_⟩;have oV:pic b=i5 g:=by rw[Pm,hg];rfl
 have K4:af [] H H4:=((kp1.drop kp2 hr1).drop kp3 hr1).drop kp4 hr1;have VH:Sg35.top g=none->bp a E:=fun hn=>k1 (by rw[oV];unfold i5;rw[hn];rfl)
 refine⟨_,rfl,tg,g.name,g.attrs,g.cq,rfl,l4,fun hn=>VH ?_,fun wd hd p l H5 hnm hw hh kp5 hp0 hl0 hpc=>?_⟩
 .unfold Sg35.top;by_cases h:g.name=ascii "svg"
  .rw[if_neg (fun z=>z h)];rcases hn h with q|q
   .rw[q];rfl
   .rw[q];cases side g.attrs "width"<;>rfl
  .rw[if_pos h]
 have T4:Sg35.top g=(gj (some 0) false g.attrs).map fun fo=>(wd,hd,⟨fo.1,fo.2,Mat.one⟩):=by
  unfold Sg35.top;rw[if_neg (fun z=>z hnm),hw,hh];show(styled ⟨some 0,false,Mat.one⟩ g.attrs false).map _=_;rw[vj];cases gj (some 0) false g.attrs<;>rfl
 obtain⟨dxt,d,hg4,Yv,YX⟩:=id l4;refine fun y0 dy hy hdy hne=>⟨y0,dy,_,_,rfl,ae,fun H6 TC h6=>⟨rfl,?_⟩⟩
 have kp6:af [] H5 H6:=af.made hy hdy TC;have k46:af [] H4 H6:=kp5.trans kp6;refine⟨_,rfl,tg,a.fk,dxt,_,_,rfl,k46.at hg4,T.dW,T.bI,cS,y0,d,some 0,false,g.attrs,rfl,⟨dy,h6⟩,Yv.keep k46,fun hn=>VH (by rw[T4,hn];rfl),fun f' o' st H7 hfo kp7 IS XC=>?_⟩;rw[hfo]at T4;have Pk:Sg35.top g=some (wd,hd,⟨f',o',Mat.one⟩):=T4;have k47:af [] H4 H7:=k46.trans kp7;have K7:af [] H H7:=K4.trans k47;have hR7:=hR4.eC k47;have Ud:=hpc.keep kp6 (by simp) (by simp) (fun _ _=>by simp);have MN:=Ud.keep kp7 (by simp) (by simp) (fun _ _=>by simp);obtain⟨dxp,hp7⟩:=MN.ob;obtain⟨_,hp6⟩:=Ud.ob;have nrp:r≠p:=hR4.ne hp0;have nrl:r≠l:=hR4.ne hl0;have npl:p≠l:=iC hp7 MN.lst (by intro z;cases z);have nsr:st≠r:=((hR4.eC k46).ne IS).symm;have nsp:st≠p:=(ak hp6 IS).symm;have nsl:st≠l:=(ak Ud.lst IS).symm;have fin:∀(G:Hp)(shs:List Sg35.Shape)(t2:B)(ss:List Addr)(F:Addr->Prop),inside g ⟨f',o',Mat.one⟩=some (shs,t2)->af [r,l] H7 G->RdR a G r t2->eR a K F G p l ss wd hd shs->(∀x,F x->x≠r)->
   D9 (CO (xy (CV a) [] E (cb (cU 1) fE))) (D9 (CO (js a.aG "need_end" (jR a) [] E (cU 1) fE)) (Gk (cU 3))) {nx:=fun _ H'=>Q .non H',rt:=Q} [some (.str x),some (.ref r),some (.ref tg),some (.ref p),some (.ref st)] G:=by
  intro G shs t2 ss F hin kG hRG hpG hF;have hpt:pic b=(bM t2).bind fun z=>if z=[]then some ⟨wd,hd,shs⟩else none:=by
   rw[oV];unfold i5;rw[Pk];dsimp only[bind_some];rw[hin];rfl
  refine⟨_,rfl,r,t2,rfl,hRG,fun hn=>k1 (by rw[hpt,hn];rfl),fun t3 ht3 G2 kG2 Yw=>?_⟩;rw[ht3]at hpt;dsimp only[bind_some]at hpt;refine jd rfl Yw (fun he=>⟨_,rfl,?_⟩) (fun he=>k1 (by rw[hpt,if_neg he]));rw[if_pos he]at hpt;refine k2 _ p l ss F G2 hpt ?_ (hpG.keep kG2 (by simpa using nrp.symm) (by simpa using nrl.symm) (fun x hx=>by simpa using hF x hx));have kk:af [r,l] H7 G2:=kG.trans (kG2.mono fun z hz=>by simp at hz;simp[hz]);refine af.grow K7 kk fun z hz=>.inr ?_
  simp only[mem_cons,not_mem_nil,or_false]at hz;rcases hz with rfl|rfl
  .exact hr1
  .exact K4.bP hl0
 refine⟨_,rfl,tg,a.fk,dxt,_,_,rfl,k47.at hg4,T.dW,T.ic,pV,_,rfl,?_⟩;cases hsh:g.cq with
 |true=>
  refine aT (fin H7 [] g.rest [] (fun x=>x≠r) ?_ af.refl hR7 ⟨⟨dxp,hp7⟩,MN.lst,.nil,by simp⟩ (fun x hx=>hx));unfold inside;rw[hsh];rfl
 |false=>
  have Wb:inside g ⟨f',o',Mat.one⟩=Sg35.run [⟨ascii "svg",false,17,⟨f',o',Mat.one⟩⟩] g.rest:=by
   unfold inside;rw[hsh,if_neg Bool.false_ne_true,hnm]
  refine a9 ⟨_,rfl,_,rfl,_,rfl,r,p,l,st,g.rest,wd,hd,⟨f',o',Mat.one⟩,rfl,hR7,MN,XC,rfl,nsr,nsp,nsl,nrp,nrl,npl,trivial,fun hn=>k1 ?_,fun shs t2 ss F G gR kG hRG hpG hF=>?_⟩
  .rw[oV];unfold i5;rw[Pk];dsimp only[bind_some];rw[Wb,hn];rfl
  .exact fin G shs t2 ss F (by rw[Wb];exact gR) kG hRG hpG (fun x hx=>(hF x hx).1)
theorem cmL{i j:Int}(h:i.natAbs<2^64):Aq i j:=.inl ⟨by omega,by omega⟩
theorem cmR{i j:Int}(h:j.natAbs<2^64):Aq i j:=.inr ⟨by omega,by omega⟩
theorem Ik{i j:Int}:(if j>i then j else i)=max i j:=by omega
theorem yr{i j:Int}:(if j<i then j else i)=min i j:=by omega
theorem eqI{i j:Int}:V.bl (decide (V.int i=V.int j))=V.bl (decide (i=j)):=congrArg V.bl (by rw[Bool.eq_iff_iff,decide_eq_true_eq,decide_eq_true_eq];exact⟨fun z=>by cases z;rfl,fun z=>by rw[z]⟩)
theorem dM{i j:Int}{p q:Nat}(h1:i.natAbs<=2^p)(h2:j.natAbs<=2^q):(i*j).natAbs<=2^(p+q):=by
 rw[Int.natAbs_mul,Nat.pow_add];exact mul_le_mul h1 h2
theorem lC{i j:Int}{p:Nat}(h1:i.natAbs<=2^p)(h2:j.natAbs<=2^p):(i+j).natAbs<=2^(p+1):=by
 rw[Nat.pow_succ];generalize 2^p=n at *;omega
theorem Gs{i j:Int}{p:Nat}(h1:i.natAbs<=2^p)(h2:j.natAbs<=2^p):(i-j).natAbs<=2^(p+1):=by
 rw[Nat.pow_succ];generalize 2^p=n at *;omega
theorem pR{i:Int}{p q:Nat}(h:i.natAbs<=2^p)(hq:p<=q):i.natAbs<=2^q:=le_trans h (Nat.pow_le_pow_right (by decide) hq)
theorem cmI{i j:Int}{p:Nat}(h:i.natAbs<=2^p)(hp:p<64:=by decide):Aq i j:=cmL (lt_of_le_of_lt h (Nat.pow_lt_pow_right (by decide) hp))
theorem cmJ{i j:Int}{p:Nat}(h:j.natAbs<=2^p)(hp:p<64:=by decide):Aq i j:=cmR (lt_of_le_of_lt h (Nat.pow_lt_pow_right (by decide) hp))
theorem cm2{j:Int}:Aq 2 j:=cmL (by decide)
theorem wK{i:Int}{p:Nat}(h:i.natAbs<=2^p)(hp:p<1000:=by decide):i.natAbs<big:=lt_of_le_of_lt h (Nat.pow_lt_pow_right (by decide) hp)
theorem IA{i:Int}{p q:Nat}(h:i.natAbs<=2^p)(hp:p<q):i<2^q:=by
 have h1:i.natAbs<2^q:=lt_of_le_of_lt h (Nat.pow_lt_pow_right (by decide) hp);have h2:((2^q:Nat):Int)=2^q:=by simp
 rw[<-h2];generalize 2^q=n at h1;omega
theorem VF{E:Ell}{y:Int}(h0:0<=y)(h1:y<=1024)(b:E.my.natAbs<=2^41):(mOf E y).natAbs<=2^43:=by unfold mOf;omega
theorem Q1{y:Int}(h0:0<=y)(h1:y<=1024):y.natAbs<=2^10:=by omega
theorem mxb{x y:Int}{n:Nat}(h1:x.natAbs<=n)(h2:y.natAbs<=n):-(n:Int)<=max x y/\max x y<=n:=⟨Int.le_trans (by omega) (Int.le_max_left x y),Int.max_le.mpr ⟨by omega,by omega⟩⟩
theorem mnb{x y:Int}{n:Nat}(h1:x.natAbs<=n)(h2:y.natAbs<=n):-(n:Int)<=min x y/\min x y<=n:=⟨Int.le_min.mpr ⟨by omega,by omega⟩,Int.le_trans (Int.min_le_left x y) (by omega)⟩
theorem Nf{x:Int}(h:-((2^50:Nat):Int)<=x/\x<=(2^50:Nat)):-(2^62)<=x/\x<2^62:=by omega
theorem YG{F m:Int}(h4:0<=F)(h5:F<2^46)(h6:m.natAbs<=2^41):(-((F+1-2*m)/2)).natAbs<=2^50/\((F-1+2*m)/2+1).natAbs<=2^50:=by omega
theorem LC{x:Int}(h1:0<=x)(h2:x<=1024):x.natAbs<=2^50:=by omega
theorem W2{lo hi F m:Int}(h1:0<=lo)(h2:lo<=hi)(h3:hi<=1024)(h4:0<=F)(h5:F<2^46)(h6:m.natAbs<=2^41):(-(2^62)<=max lo (-((F+1-2*m)/2))/\max lo (-((F+1-2*m)/2))<2^62)/\-(2^62)<=min hi ((F-1+2*m)/2+1)/\min hi ((F-1+2*m)/2+1)<2^62:=
 have d:=YG h4 h5 h6
 ⟨Nf (mxb (LC h1 (Int.le_trans h2 h3)) d.1),Nf (mnb (LC (Int.le_trans h1 h2) h3) d.2)⟩
theorem UU{f b:Int}{i:Nat}(h:i<(b-f).toNat):f+(i:Int)<b:=by omega
theorem Ph{f:Int}(i:Nat):f<=f+(i:Int):=by omega
theorem Vc{lo hi p q r:Int}{i:Nat}(hin:i<(min hi q-max lo p).toNat)(hr:r=max lo p+(i:Int)):lo<=r/\r<hi/\p<=r/\r<q:=by
 subst hr;have a:=UU hin;exact⟨Int.le_trans (Int.le_max_left lo p) (Ph i),Int.lt_of_lt_of_le a (Int.min_le_left hi q),Int.le_trans (Int.le_max_right lo p) (Ph i),Int.lt_of_lt_of_le a (Int.min_le_right hi q)⟩
theorem UT{f:Int}{i:Nat}(h1:0<=f)(h:f+(i:Int)<=1024):(f+(i:Int)-f).toNat<=1024:=by omega
theorem WZ{lo hi F m f b:Int}{i:Nat}(hf:max lo (-((F+1-2*m)/2))=f)(hb:min hi ((F-1+2*m)/2+1)=b)(h1:0<=lo)(h3:hi<=1024)(hin:i<(b-f).toNat):(0<=f+(i:Int)/\f+(i:Int)<=1024)/\(-((F+1-2*m)/2)<=f+(i:Int)/\f+(i:Int)<(F-1+2*m)/2+1)/\(f+(i:Int)-f).toNat<=1024:=by
 subst hf;subst hb;obtain⟨a1,a2,a3,a4⟩:=Vc hin rfl;have a5:=Int.le_trans (Int.le_of_lt a2) h3;exact⟨⟨Int.le_trans h1 a1,a5⟩,⟨a3,a4⟩,UT (Int.le_trans h1 (Int.le_max_left _ _)) a5⟩
theorem Eo{n s t:Int}(h:ej n s)(k:ej n t):s=t:=by
 have h1:=(jV k (z:=s)).mp h.2.1;have h2:=(jV h (z:=t)).mp k.2.1;omega
theorem C9:∀n:Nat,∃s:Int,ej n s
 |0=>⟨0,Sg35.uc⟩
 |n+1=>by
  obtain⟨s,h0,h1,h2⟩:=C9 n;have e:(s+1+1)*(s+1+1)=(s+1)*(s+1)+2*(s+1)+1:=by rw[add_mul (s+1) 1,mul_add (s+1)];omega
  by_cases h:((n+1:Nat):Int)<(s+1)*(s+1)
  .exact⟨s,h0,by omega,h⟩
  .exact⟨s+1,by omega,by omega,by rw[e];omega⟩
noncomputable def xY(n:Int):Int:=Classical.epsilon (ej n)
theorem xX{n s:Int}(h:ej n s):xY n=s:=Eo (Classical.epsilon_spec ⟨s,h⟩) h
theorem Uy{m:Mat}{cx cy r:Int}(hs:Small m)(hC:Ly cx cy r):QH (aO m cx cy r):=by
 have a1:m.a.natAbs<=2^24:=hs m.a (by simp);have a2:m.b.natAbs<=2^24:=hs m.b (by simp);have a3:m.c.natAbs<=2^24:=hs m.c (by simp);have a4:m.d.natAbs<=2^24:=hs m.d (by simp);have a5:m.e.natAbs<=2^24:=hs m.e (by simp);have a6:m.f.natAbs<=2^24:=hs m.f (by simp);obtain⟨c1,c2,c3⟩:=hC;have c1:cx.natAbs<=2^15:=by omega
 have c2:cy.natAbs<=2^15:=by omega
 have c3:r.natAbs<=2^15:=by omega
 have q1:=lC (dM a2 a2) (dM a4 a4);have f4:(4:Int).natAbs<=2^2:=by decide
 exact⟨lC (lC (dM a1 c1) (dM a3 c2)) (pR a5 (by decide)),lC (lC (dM a2 c1) (dM a4 c2)) (pR a6 (by decide)),pR (Gs (dM a1 a4) (dM a2 a3)) (by decide),pR q1 (by decide),pR (lC (dM a1 a2) (dM a3 a4)) (by decide),pR (dM (dM (dM f4 q1) c3) c3) (by decide)⟩
theorem Hr{n:Int}(h:0<=n):ej n (xY n):=by
 obtain⟨s,hs⟩:=C9 n.toNat;rw[Int.toNat_of_nonneg h]at hs;rw[xX hs];exact hs
theorem xZ{f b:Int}:Sg35.rng f (f+((b-f).toNat:Int))=Sg35.rng f b:=by
 unfold Sg35.rng;rw[show(f+((b-f).toNat:Int)-f).toNat=(b-f).toNat by omega]
theorem kX.iff{W lo hi:Int}{c d:Int->Int->Prop}{sp:List (Int×Int)}(h:∀x y,c x y↔d x y)(s:Sg35.kX W lo hi c sp):Sg35.kX W lo hi d sp:=by
 have e:c=d:=by funext x y;exact propext (h x y)
 rw[<-e];exact s
theorem yP{I L:Type}{g:I->List L}(h:∀x,(g x).length<=1):∀l:List I,(l.flatMap g).length<=l.length
 |[]=>le_refl _
 |x::r=>by
  rw[flatMap_cons,length_append,length_cons];have:=h x;have:=yP h r;omega
theorem b0.push{H:Hp}{l t:Addr}{sp:List Sn}{ts:List Addr}{s:Sn}(hl:H l=some (.lst (ts.map V.ref)))(hp:Paired (SnT H) ts sp)(ht:H t=none):b0 (upd (upd H t (.tup [.int s.1,.int s.2])) l (.lst (ts.map V.ref++[.ref t]))) l (sp++[s]):=by
 have tl:t≠l:=(ak hl ht).symm;refine⟨ts++[t],by rw[ae,map_append];rfl,?_⟩;have old:∀a b,SnT H a b->SnT (upd (upd H t (.tup [.int s.1,.int s.2])) l (.lst (ts.map V.ref++[.ref t]))) a b:=fun a b z=>by
  unfold SnT at z ⊢;rw[aq (fun e=>by rw[e,hl]at z;cases z),aq (ak z ht)];exact z
 have new:SnT (upd (upd H t (.tup [.int s.1,.int s.2])) l (.lst (ts.map V.ref++[.ref t]))) t s:=by
  unfold SnT;rw[aq tl,ae]
 generalize upd (upd H t (.tup [.int s.1,.int s.2])) l (.lst (ts.map V.ref++[.ref t]))=H2 at old new ⊢;clear hl;induction hp with
 |nil=>exact .cons new .nil
 |cons x y ih=>exact .cons (old _ _ x) ih
theorem b0.keep{M:List Addr}{H H':Hp}{l:Addr}{sp:List Sn}(h:b0 H l sp)(k:af M H H')(n:l∉M):b0 H' l sp:=by
 obtain⟨ts,h1,h2⟩:=h;exact⟨ts,k.kp _ _ h1 n,Paired.rn h2 fun a b z=>k.tp _ _ z⟩
theorem kI{W lo hi:Int}:(wnF W lo hi).lookup ("width":Str)=some (.int W):=rfl
theorem cu{W lo hi:Int}:(wnF W lo hi).lookup ("row_length":Str)=some (.int (W+1)):=rfl
theorem kY{W lo hi:Int}:(wnF W lo hi).lookup ("first_row":Str)=some (.int lo):=rfl
theorem eU{W lo hi:Int}:(wnF W lo hi).lookup ("behind_row":Str)=some (.int hi):=rfl
theorem UJ{u v z:V}:List.lookup ("cx":Str) [("cx",u),("cy",v),("r",z)]=some u:=rfl
theorem UI{u v z:V}:List.lookup ("cy":Str) [("cx",u),("cy",v),("r",z)]=some v:=rfl
theorem JB{u v z:V}:List.lookup ("r":Str) [("cx",u),("cy",v),("r",z)]=some z:=rfl
theorem jk{t:Addr}{E:Ell}:(elF t E).lookup ("middle":Str)=some (.ref t):=rfl
theorem Jj{t:Addr}{E:Ell}:(elF t E).lookup ("t":Str)=some (.int E.t):=rfl
theorem Jk{t:Addr}{E:Ell}:(elF t E).lookup ("q":Str)=some (.int E.q):=rfl
theorem Ww{t:Addr}{E:Ell}:(elF t E).lookup ("p":Str)=some (.int E.p):=rfl
theorem uC{t:Addr}{E:Ell}:(elF t E).lookup ("reach":Str)=some (.int E.reach):=rfl
theorem HY:T.xj:=by
 refine T.vh.fn.okA GL fun H Q E hr h=>?_
 obtain⟨p,t,m,z,rfl,hm,hM,hz,k⟩:=h;refine⟨_,(ah (aD (bH (ai (ao aQ (ao aQ (ao aH (az aA (pv 0) ag) (az aA (pv 1) ag)) (ao aH (az aA (pv 0) ag) (az aA (pv 1) ag))) (az aA (pv 0) ag)) (pa1 (ao aQ (ao aQ (ao aH (az aA (pv 0) ag) (az aA (pv 1) ag)) (ao aH (az aA (pv 0) ag) (az aA (pv 1) ag))) (az aA (pv 0) ag))))))),?_⟩;dsimp only[bq];have h1:=hM m.a (by simp);have h2:=hM m.b (by simp);have h3:=hM m.c (by simp);have h4:=hM m.d (by simp);exact⟨_,rfl,_,_,_,_,rfl,rfl,hm,rfl,_,rfl,_,_,_,_,rfl,rfl,hz,rfl,_,_,rfl,rfl,cmI h1,_,rfl,_,_,_,_,rfl,rfl,hm,rfl,_,rfl,_,_,_,_,rfl,rfl,hz,rfl,_,_,rfl,rfl,cmI h3,_,_,rfl,rfl,_,rfl,_,_,_,_,rfl,rfl,hm,rfl,_,_,rfl,rfl,_,rfl,_,_,_,_,rfl,rfl,hm,rfl,_,rfl,_,_,_,_,rfl,rfl,hz,rfl,_,_,rfl,rfl,cmI h2,_,rfl,_,_,_,_,rfl,rfl,hm,rfl,_,rfl,_,_,_,_,rfl,rfl,hz,rfl,_,_,rfl,rfl,cmI h4,_,_,rfl,rfl,_,rfl,_,_,_,_,rfl,rfl,hm,rfl,_,_,rfl,rfl,sl2,fun q hq=>k q hq⟩
theorem S2(kR:T.xj):T.Qs:=by
 refine T.BY.okA Rw fun H Q E hr h=>?_
 obtain⟨x,dx,c,p,cx,cy,r,m,rfl,hx,⟨dc,hc⟩,hC,hm,hs,hne,k⟩:=h;refine⟨_,(aa (aX (pv 0) (pcD kR hr T.vh cp (ai (pv 2) (pa1 (bH (ai (ax (pv 1)) (pa1 (ax (pv 1)))))))))
   (aa (aX (pv 0) (ao cg (ao aH (az aA (pv 2) ag) (az aA (pv 2) ag)) (ao aH (az aA (pv 2) ag) (az aA (pv 2) ag))))
   (aa (aX (pv 0) (ao aQ (ao aH (az aA (pv 2) ag) (az aA (pv 2) ag)) (ao aH (az aA (pv 2) ag) (az aA (pv 2) ag))))
   (aa (aX (pv 0) (ao aQ (ao aH (az aA (pv 2) ag) (az aA (pv 2) ag)) (ao aH (az aA (pv 2) ag) (az aA (pv 2) ag))))
   (ah (aX (pv 0) (ao aH (ao aH (ao aH ag (ax (pv 0))) (ax (pv 1))) (ax (pv 1))))))))),?_⟩
 dsimp only[bq];refine⟨_,rfl,_,rfl,_,_,_,_,_,rfl,hc,T.eP,T.mO,UJ,_,rfl,_,_,_,_,_,rfl,hc,T.eP,T.mM,UI,sl2,fun t ht=>⟨p,t,m,(cx,cy),rfl,(af.new (M:=[]) ht).sqT hm,hs.mid,SqT.of ae,fun t' ht'=>?_⟩⟩;have k2:af [] H (upd (upd H t (.tup [.int cx,.int cy])) t' (.tup [.int (mvP m (cx,cy)).1,.int (mvP m (cx,cy)).2])):=(af.new ht).trans (af.new ht');have ct:SnT (upd (upd H t (.tup [.int cx,.int cy])) t' (.tup [.int (mvP m (cx,cy)).1,.int (mvP m (cx,cy)).2])) t' (mvP m (cx,cy)):=ae;generalize upd (upd H t (.tup [.int cx,.int cy])) t' (.tup [.int (mvP m (cx,cy)).1,.int (mvP m (cx,cy)).2])=H2 at k2 ct;have hx2:=k2.at hx;have hc2:=k2.at hc;have km:∀u,dY K (upd H2 x u) p m:=fun u=>(af.set (M:=[x]) (by simp) (by rw[hx2];exact trivial)).sqT (k2.sqT hm)
 have b1:m.a.natAbs<=2^24:=hs m.a (by simp);have b2:m.b.natAbs<=2^24:=hs m.b (by simp);have b3:m.c.natAbs<=2^24:=hs m.c (by simp);have b4:m.d.natAbs<=2^24:=hs m.d (by simp);have hcu:∀u,upd H2 x u c=some (.ins a.ck dc [("cx",.int cx),("cy",.int cy),("r",.int r)]):=fun u=>by rw[aq (Ne.symm hne)];exact hc2
 obtain⟨c1,c2,c3⟩:=hC;have c3:r.natAbs<=2^15:=le_trans c3 (by decide);refine⟨_,rfl,x,a.bN,dx,_,rfl,hx2,T.a0,T.cJ,lt0,?_⟩;rw[dP];refine⟨_,rfl,_,_,_,_,rfl,rfl,(km _),rfl,_,rfl,_,_,_,_,rfl,rfl,(km _),rfl,_,_,rfl,rfl,cmI b1,_,rfl,_,_,_,_,rfl,rfl,(km _),rfl,_,rfl,_,_,_,_,rfl,rfl,(km _),rfl,_,_,rfl,rfl,cmI b2,_,_,rfl,rfl,_,rfl,x,a.bN,dx,_,rfl,ae,T.a0,T.gq,lt1,?_⟩;rw[cf,bD (by decide +kernel),dP];refine⟨_,rfl,_,_,_,_,rfl,rfl,(km _),rfl,_,rfl,_,_,_,_,rfl,rfl,(km _),rfl,_,_,rfl,rfl,cmI b2,_,rfl,_,_,_,_,rfl,rfl,(km _),rfl,_,rfl,_,_,_,_,rfl,rfl,(km _),rfl,_,_,rfl,rfl,cmI b4,_,_,rfl,rfl,_,rfl,x,a.bN,dx,_,rfl,ae,T.a0,T.ff,lt2,?_⟩;rw[cf,bD (by decide +kernel),bD (by decide +kernel),dP];refine⟨_,rfl,_,_,_,_,rfl,rfl,(km _),rfl,_,rfl,_,_,_,_,rfl,rfl,(km _),rfl,_,_,rfl,rfl,cmI b1,_,rfl,_,_,_,_,rfl,rfl,(km _),rfl,_,rfl,_,_,_,_,rfl,rfl,(km _),rfl,_,_,rfl,rfl,cmI b3,_,_,rfl,rfl,_,rfl,x,a.bN,dx,_,rfl,ae,T.a0,T.mL,lt3,?_⟩;rw[cf,bD (by decide +kernel),bD (by decide +kernel),bD (by decide +kernel),dP];refine⟨_,rfl,_,_,_,_,_,rfl,ae,T.a0,T.ff,rfl,_,_,rfl,rfl,cmL (by decide),_,rfl,_,_,_,_,_,rfl,hcu _,T.eP,T.gX,JB,_,_,rfl,rfl,cmJ c3,_,rfl,_,_,_,_,_,rfl,hcu _,T.eP,T.gX,JB,_,_,rfl,rfl,cmJ c3,_,rfl,x,a.bN,dx,_,rfl,ae,T.a0,T.fK,lt4,?_⟩;rw[cf,bD (by decide +kernel),bD (by decide +kernel),bD (by decide +kernel),bD (by decide +kernel),dP];have tx:t'≠x:=fun z=>by
  have c':=ct;unfold SnT at c';rw[z,hx2]at c';cases c'
 refine k _ ((k2.up (M:=[x])).trans (af.set (by simp) (by rw[hx2];exact trivial))) ⟨dx,t',ae,?_⟩;unfold SnT;rw[aq tx];exact ct
theorem Sz:T.Ka:=by
 refine T.Gi.fn.okA qv fun H Q E hr h=>?_
 obtain⟨n,rfl,h0,hb,k⟩:=h;refine⟨_,(aa (aR (aF dr (pv 0) ag) (ah (aD ag)) aI)
   (aa (aw 1 qv.nd (ao RX ag (ao i9 (ao aQ (i7 PySem.F.plainAttrs_int PySem.F.slot_int_bit_length PySem.F.type_int_bit_length Mu (pv 0)) ag) ag)))
   (aa (aw 2 qv.nd (ao i9 (ao aQ (pv 1) (ao jY (pv 0) (pv 1))) ag))
   (aa (eu (aF uh (pv 2) (pv 1)) (aa (aw 1 qv.nd (pv 2))
   (ah (aw 2 qv.nd (ao i9 (ao aQ (pv 1) (ao jY (pv 0) (pv 1))) ag)))))
   (ah (aD (pv 1))))))),?_⟩
 dsimp only[bq];refine⟨_,rfl,rfl,decide (n=0),congrArg V.bl (by rw[Bool.eq_iff_iff,decide_eq_true_eq,decide_eq_true_eq];exact⟨fun z=>by cases z;rfl,fun z=>by rw[z]⟩),?_⟩;by_cases hn:n=0
 .refine dT hn ?_;subst hn;exact k 0 Sg35.uc
 refine dF hn ?_;have Y4:Builtin.Int.intBits n<=900:=intBits_le_iff.mpr (by omega);have hdiv:∀g:Int,0<g->g<2^950->Nq n g:=fun g h1 h2=>⟨h1,by unfold big;omega⟩
 have hg0:∃g:Int,g=1*2^(((Builtin.Int.intBits n:Nat)+1:Int)/2).toNat/\0<g/\g<2^950/\n<(g+1)*(g+1):=by
  have e:((((Builtin.Int.intBits n:Nat):Int)+1)/2).toNat=(Builtin.Int.intBits n+1)/2:=by omega
  rw[e];refine⟨_,rfl,?_,?_,?_⟩
  .have:(0:Int)<2^((Builtin.Int.intBits n+1)/2):=Int.pow_pos (by decide);omega
  .have h1:(2:Nat)^((Builtin.Int.intBits n+1)/2)<=2^451:=Nat.pow_le_pow_right (by decide) (by omega);have h2:((2:Int)^((Builtin.Int.intBits n+1)/2))=(((2:Nat)^((Builtin.Int.intBits n+1)/2):Nat):Int):=by simp
   rw[h2];have h3:(2:Nat)^451<2^950:=by decide +kernel
   omega
  .have h1:n.natAbs<2^Builtin.Int.intBits n:=intBits_le_iff.mp (le_refl _);have h2:(2:Nat)^Builtin.Int.intBits n<=2^((Builtin.Int.intBits n+1)/2+(Builtin.Int.intBits n+1)/2):=Nat.pow_le_pow_right (by decide) (by omega);rw[Nat.pow_add]at h2;have h3:((2:Int)^((Builtin.Int.intBits n+1)/2))=(((2:Nat)^((Builtin.Int.intBits n+1)/2):Nat):Int):=by simp
   rw[one_mul,h3];generalize (2:Nat)^((Builtin.Int.intBits n+1)/2)=q at h2 ⊢;have h4:n<((q*q:Nat):Int):=by omega
   have h5:((q:Int)+1)*((q:Int)+1)=((q*q:Nat):Int)+2*(q:Int)+1:=by
    rw[natCast_mul];rw[add_mul,mul_add];omega
   rw[h5];omega
 obtain⟨g,eg,hg1,hg2,hg3⟩:=hg0;refine⟨_,rfl,rfl,_,rfl,rfl,_,_,rfl,rfl,_,_,rfl,rfl,⟨by decide,by decide⟩,_,_,rfl,rfl,⟨by omega,by omega,by decide⟩,?_⟩;dsimp only;rw[show(1:Int)*2^((((Builtin.Int.intBits n:Nat):Int)+1)/2).toNat=g from eg.symm];refine⟨_,rfl,_,rfl,_,rfl,_,_,rfl,rfl,hdiv g hg1 hg2,_,_,rfl,rfl,_,_,rfl,rfl,⟨by decide,by decide⟩,?_⟩;refine⟨fun c Y' H'=>∃g:Int,Y'=[some (.int n),some (.int g),some (.int ((g+n/g)/2))]/\H'=H/\c=g.toNat/\0<g/\g<2^950/\n<(g+1)*(g+1),⟨_,g,rfl,rfl,rfl,hg1,hg2,hg3⟩,?_⟩;rintro c Y' H' ⟨g,rfl,rfl,rfl,h1,h2,h3⟩;refine⟨_,rfl,_,rfl,_,_,rfl,rfl,decide ((g+n/g)/2<g),rfl,?_⟩;by_cases hd:(g+n/g)/2<g
 .rw[decide_eq_true hd];have p1:=Sg35.Bp h1 (by omega) h3;refine a9 ⟨fun Y' H''=>∃g':Int,Y'=[some (.int n),some (.int g'),some (.int ((g'+n/g')/2))]/\H''=H'/\0<g'/\g'<2^950/\n<(g'+1)*(g'+1)/\g'.toNat<g.toNat,fun Y' H' ⟨g',e1,e2,e3,e4,e5,e6⟩=>⟨_,e6,g',e1,e2,rfl,e3,e4,e5⟩,?_⟩;refine⟨_,rfl,_,rfl,_,rfl,_,rfl,_,_,rfl,rfl,hdiv _ p1 (by omega),_,_,rfl,rfl,_,_,rfl,rfl,⟨by decide,by decide⟩,?_⟩;exact⟨_,rfl,rfl,p1,by omega,Sg35.wk h1 (by omega),by omega⟩
 .refine dF hd ?_;exact⟨_,rfl,k g (Sg35.yo h1 h0 h3 hd)⟩
theorem S6(uT:T.Ka):T.Qw:=by
 refine T.N3.fn.okA nV fun H Q E hr h=>?_
 obtain⟨l,e,wd,sp,E,y,W,lo,hi,rfl,⟨ts,hl,hts⟩,⟨dx,t,he,ht⟩,hE,hq,⟨dw,hw⟩,hW,hy0,hy1,hm,hlen,k⟩:=h;refine⟨_,(aa (aw 4 nV.nd (ao cg (ao aQ (ao aH ag (pv 2)) ag) (ao aH ag (az aA (ax (pv 1)) ag))))
   (aa (aw 5 nV.nd (pcD uT hr T.Gi cp (pa1 (ao Me (ao aH (ax (pv 1)) (ax (pv 1))) (ao cg (ax (pv 1)) (ao aH (pv 4) (pv 4)))))))
   (aa (aw 6 nV.nd (ao aQ (ao aH (ax (pv 1)) (pv 4)) (ao aH (ax (pv 1)) (ao cg (ao aH ag (az aA (ax (pv 1)) ag)) ag))))
   (aa (aw 7 nV.nd (aL (oG rfl) T.sD (ai ag (pa1 (ju fZ (ao jY (ao cg (pv 5) (pv 6)) (ao aH ag (ax (pv 1)))))))))
   (aa (aw 8 nV.nd (aL (oF rfl) T.Cq (ai (ax (pv 3)) (pa1 (ao aQ (ao jY (ao aQ (pv 5) (pv 6)) (ao aH ag (ax (pv 1)))) ag)))))
   (ah (aR (aF uh (pv 7) (pv 8)) (ah (aK (iA PySem.F.plainAttrs_list PySem.F.slot_list_append PySem.F.type_list_append eN (pv 0) (pa1 (bH (ai (ao aQ (ao aH (pv 2) (ax (pv 3))) (pv 7)) (pa1 (ao aQ (ao aH (pv 2) (ax (pv 3))) (pv 8))))))))) aI))))))),?_⟩
 dsimp only[bq];obtain⟨b1,b2,b3,b4,b5,b6⟩:=hE;have bm:=VF (E:=E) hy0 hy1 b2;have btt:=dM b3 b3;have bk:=Gs b6 (pR (dM bm bm) (by decide:_<=90));have hdv:∀{z:Int},Nq z (2*E.q):=⟨Int.mul_pos (by decide) hq,wK (dM (p:=1) (by decide) b4)⟩;have hnn:0<=E.t*E.t*(E.reach-mOf E y*mOf E y):=mul_nonneg (sqn _) (Int.sub_nonneg_of_le hm);refine⟨_,rfl,_,_,rfl,rfl,cm2,_,_,rfl,rfl,_,rfl,_,_,_,_,_,rfl,he,T.a0,T.cJ,jk,_,_,_,_,rfl,rfl,(SqT.of ht),rfl,_,_,rfl,rfl,cm2,_,_,rfl,rfl,?_⟩;refine⟨_,rfl,_,_,_,_,_,rfl,he,T.a0,T.gq,Jj,_,rfl,_,_,_,_,_,rfl,he,T.a0,T.gq,Jj,_,_,rfl,rfl,cmI b3,_,rfl,_,_,_,_,_,rfl,he,T.a0,T.fK,uC,_,rfl,_,rfl,_,_,rfl,rfl,cmI bm,_,_,rfl,rfl,_,_,rfl,rfl,⟨wK btt,wK bk⟩,_,rfl,hnn,IA (dM btt bk) (by decide),fun s hs=>?_⟩;refine⟨_,rfl,_,_,_,_,_,rfl,he,T.a0,T.mL,Ww,_,rfl,_,_,rfl,rfl,cmI b5,_,rfl,_,_,_,_,_,rfl,he,T.a0,T.ff,Jk,_,rfl,_,_,_,_,_,rfl,he,T.a0,T.cJ,jk,_,_,_,_,rfl,rfl,(SqT.of ht),rfl,_,_,rfl,rfl,cm2,_,_,rfl,rfl,_,_,rfl,rfl,cmI b4,_,_,rfl,rfl,?_⟩;refine⟨_,rfl,_,rfl,_,_,rfl,rfl,_,rfl,_,_,_,_,_,rfl,he,T.a0,T.ff,Jk,_,_,rfl,rfl,cm2,_,_,rfl,rfl,hdv,_,rfl,_,_,rfl,?_⟩;refine⟨_,rfl,_,_,_,_,_,rfl,hw,T.bc,T.du,kI,_,rfl,_,rfl,_,_,rfl,rfl,_,rfl,_,_,_,_,_,rfl,he,T.a0,T.ff,Jk,_,_,rfl,rfl,cm2,_,_,rfl,rfl,hdv,_,_,rfl,rfl,_,_,rfl,?_⟩;rw[Ik,yr];refine⟨_,rfl,_,rfl,_,_,rfl,rfl,decide (fOf E s y<bOf W E s y),rfl,?_⟩;by_cases hlt:fOf E s y<bOf W E s y
 .refine dT hlt ⟨_,rfl,.inl ⟨rfl,_,SqL.of hl⟩,_,rfl,_,rfl,_,_,_,_,_,rfl,hw,T.bc,T.aY,cu,_,_,rfl,rfl,cmI (Q1 hy0 hy1),_,rfl,_,_,rfl,rfl,_,rfl,_,rfl,_,_,_,_,_,rfl,hw,T.bc,T.aY,cu,_,_,rfl,rfl,cmI (Q1 hy0 hy1),_,rfl,_,_,rfl,rfl,sl2,fun t2 ht2=>⟨l,_,_,rfl,rfl,(by rw[aq (ak hl ht2)];exact hl),(by rw[length_map,Paired.length hts,sizeLine_eq];omega),?_⟩⟩;refine k s _ hs ((af.new ht2).trans (af.set (by simp) (by rw[aq (ak hl ht2),hl];exact trivial))) ?_;unfold jt;rw[if_pos hlt];exact b0.push (s:=(y*(W+1)+fOf E s y,y*(W+1)+bOf W E s y)) hl hts ht2
 .refine dF hlt ?_;refine k s _ hs af.refl ?_;unfold jt;rw[if_neg hlt,append_nil];exact⟨ts,hl,hts⟩
theorem S5(Lj:T.Qs)(uT:T.Ka)(Ln:T.Qw):T.Qv:=by
 refine T.N2.fn.okA lM fun H Q E hr h=>?_
 obtain⟨c,p,wd,cx,cy,r,m,W,lo,hi,rfl,⟨dc,hc⟩,hC,hm,hs,⟨dw,hw⟩,hW,k⟩:=h;refine⟨_,(aa (aw 3 lM.nd (bW T.Bu Lj hr T.yx T.JV cp (ai (pv 0) (pa1 (pv 1)))))
   (aa (aw 4 lM.nd (cW lS))
   (aa (aR (oQ (aF dr (ax (pv 3)) ag) (lO (aF dr (ax (pv 0)) ag))).pt (ah (aD (pv 4))) aI)
   (aa (aw 5 lM.nd (pcD uT hr T.Gi cp (pa1 (ax (pv 3)))))
   (aa (aw 6 lM.nd (aL (oG rfl) T.sD (ai (ax (pv 2)) (pa1 (ju fZ (ao i9 (ao cg (ao aQ (pv 5) ag) (ao aH ag (az aA (ax (pv 3)) ag))) ag))))))
   (aa (aw 7 lM.nd (aL (oF rfl) T.Cq (ai (ax (pv 2)) (pa1 (ao aQ (ao i9 (ao aQ (ao cg (pv 5) ag) (ao aH ag (az aA (ax (pv 3)) ag))) ag) ag)))))
   (aa (fH (nZ (by rfl) T.fq (ai (pv 6) (pa1 (pv 7)))) (bG 8 lM.nd) (ah (aK (pcD Ln hr T.N3 cp (ai (pv 4) (ai (pv 3) (ai (pv 8) (pa1 (pv 2)))))))))
   (ah (aD (pv 4)))))))))),?_⟩
 dsimp only[bq];refine⟨_,rfl,_,rfl,fun x dx hx hdx hne=>?_⟩;have k1:af [] H (upd (upd H dx (.own x)) x (.ins a.bN dx [])):=(af.new hdx).trans (af.new (by rw[aq (Ne.symm hne)];exact hx));refine⟨x,dx,c,p,cx,cy,r,m,rfl,ae,⟨dc,k1.at hc⟩,hC,k1.sqT hm,hs,(ak hc hx).symm,fun H2 k2 hE=>⟨rfl,?_⟩⟩;have kH2:af [] H H2:=af.made hx hdx k2;have hO:=Uy hs hC;refine⟨zero_le _,fun l hl=>?_⟩;have kH3:af [] H (upd H2 l (.lst [])):=kH2.trans (af.new hl);have kE3:af [] H2 (upd H2 l (.lst [])):=af.new hl;have hl3:b0 (upd H2 l (.lst [])) l []:=⟨[],ae,.nil⟩;have hl0:H l=none:=kH2.bP hl;generalize upd H2 l (.lst [])=H3 at kH3 kE3 hl3;obtain⟨de,te,he,ht⟩:=hE;have he3:=kE3.at he;have ht3:SnT H3 te _:=kE3.tp _ _ ht;have hc3:=kH3.at hc;have hw3:=kH3.at hw;have lx:l≠x:=fun z=>by rw[z,he]at hl;cases hl
 refine⟨_,rfl,_,_,_,_,_,rfl,he3,T.a0,T.gq,Jj,rfl,_,eqI,?_⟩;by_cases hd:(aO m cx cy r).t=0
 .exact dT hd (a9 ⟨_,rfl,k l [] H3 kH3 hl3 (we fun x y z=>z.1 hd)⟩)
 refine dF hd ⟨_,rfl,_,_,_,_,_,rfl,hc3,T.eP,T.gX,JB,rfl,_,eqI,?_⟩;by_cases hr0:r=0
 .exact dT hr0 ⟨_,rfl,k l [] H3 kH3 hl3 (we fun x y z=>z.2.1 hr0)⟩
 refine dF hr0 ?_;have hO2:=hO;obtain⟨b1,b2,b3,b4,b5,b6⟩:=hO2;have Ul:m.det≠0:=hd;have hq:0<(aO m cx cy r).q:=Sg35.Hx Ul;have hrn:0<=(aO m cx cy r).reach:=Sg35.Hu;refine⟨_,rfl,_,_,_,_,_,rfl,he3,T.a0,T.fK,uC,_,rfl,hrn,IA b6 (by decide),fun F hF=>?_⟩;have hF1:0<=F:=hF.1;have hF2:F<2^46:=Sg35.qU (by decide) (Int.lt_of_le_of_lt hF.2.1 (IA (q:=92) b6 (by decide)));refine⟨_,rfl,_,_,_,_,_,rfl,hw3,T.bc,T.ef,kY,_,rfl,_,_,rfl,rfl,_,rfl,_,_,_,_,_,rfl,he3,T.a0,T.cJ,jk,_,_,_,_,rfl,rfl,(SqT.of ht3),rfl,_,_,rfl,rfl,cm2,_,_,rfl,rfl,_,_,rfl,rfl,⟨by decide,by decide⟩,_,rfl,_,_,rfl,?_⟩;refine⟨_,rfl,_,_,_,_,_,rfl,hw3,T.bc,T.bU,eU,_,rfl,_,_,rfl,rfl,_,rfl,_,_,_,_,_,rfl,he3,T.a0,T.cJ,jk,_,_,_,_,rfl,rfl,(SqT.of ht3),rfl,_,_,rfl,rfl,cm2,_,_,rfl,rfl,_,_,rfl,rfl,⟨by decide,by decide⟩,_,_,rfl,rfl,_,_,rfl,?_⟩;rw[Ik,yr];obtain⟨w1,w2,w3,w4,w5⟩:=hW;have d7:∀y,mOf (aO m cx cy r) y*mOf (aO m cx cy r) y<=(aO m cx cy r).reach↔-((F+1-2*(aO m cx cy r).my)/2)<=y/\y<(F-1+2*(aO m cx cy r).my)/2+1:=fun y=>Sg35.nW hF
 have fin:=Sg35.FP (m:=m) (cx:=cx) (cy:=cy) (r:=r) (W:=W) (lo:=lo) (hi:=hi) (F:=F) (s:=fun y=>xY ((aO m cx cy r).t*(aO m cx cy r).t*((aO m cx cy r).reach-mOf (aO m cx cy r) y*mOf (aO m cx cy r) y))) w1 Ul hF fun y hy=>Hr (mul_nonneg (sqn _) (Int.sub_nonneg_of_le hy))
 have wl:wd≠l:=ak hw hl0;generalize hEE:aO m cx cy r=E at *;obtain⟨⟨r1,r2⟩,r3,r4⟩:=W2 w3 w4 w5 hF1 hF2 b2;refine⟨_,rfl,_,rfl,_,_,rfl,⟨r1,r2,r3,r4⟩,?_⟩;generalize hf:max lo (-((F+1-2*E.my)/2))=f at *;generalize hb:min hi ((F-1+2*E.my)/2+1)=b at *;refine iJ (fun i Y' H'=>∃rw',Y'=[some (.ref c),some (.ref p),some (.ref wd),some (.ref x),some (.ref l),some (.int F),some (.int f),some (.int b),rw']/\af [] H H'/\af [l] H3 H'/\
  b0 H' l ((Sg35.rng f (f+(i:Int))).flatMap (jt W (fun y=>fOf E (xY (E.t*E.t*(E.reach-mOf E y*mOf E y))) y) fun y=>bOf W E (xY (E.t*E.t*(E.reach-mOf E y*mOf E y))) y)))
  ⟨none,rfl,kH3,af.refl,by rw[i0 (by omega)];exact hl3⟩ (fun i Y' H' hin ⟨rw',e1,e2,e3,e4⟩=>?_) (fun Y' H' ⟨rw',e1,e2,e3,e4⟩=>?_)
 .subst e1;obtain⟨⟨q1,q2⟩,q3,q4⟩:=WZ hf hb w3 w5 hin;refine⟨_,rfl,_,rfl,_,rfl,_,rfl,l,x,wd,_,E,f+(i:Int),W,lo,hi,rfl,e4,⟨de,te,e3.kp _ _ he3 (by simpa using Ne.symm lx),e3.tp _ _ ht3⟩,hO,hq,⟨dw,e3.kp _ _ hw3 (by simpa using wl)⟩,⟨w1,w2,w3,w4,w5⟩,q1,q2,(d7 _).mpr q3,?_,fun s H4 hs k4 h4=>?_⟩
  .refine le_trans (yP (fun y=>?_) _) ?_
   .unfold jt;split<;>simp
   .rw[Sg35.L4];exact le_trans q4 (by decide)
  .refine⟨_,rfl,af.drop e2 k4 hl0,e3.trans k4,?_⟩;rw[show f+((i+1:Nat):Int)=f+(i:Int)+1 by omega,jW (by omega),List.flatMap_append,flatMap_cons,List.flatMap_nil,append_nil];rw[<-xX hs]at h4;exact h4
 .subst e1;rw[xZ]at e4;exact⟨_,rfl,k l _ H' e2 e4 (kX.iff (fun x y=>⟨fun z=>⟨Ul,hr0,z⟩,fun z=>z.2.2⟩) fin)⟩
 end Pg
namespace Pg
open PySem PySem.Spec PyProof.Rows L2 TL
variable{P:Program}{w:World}{K:Frag}{mg:Str->Option Value}{bZ:Heap}{a:Adr}(T:TX P w K mg bZ a)
theorem EA{u:V}:List.lookup ("lines":Str) [("lines",u)]=some u:=rfl
section
variable{D O:Type}[DecidableEq D][DecidableEq O]{g:D->O}
theorem u3(inj:∀a b,g a=g b->a=b)(k:D):∀kvs:List (D×Int),(dJ (kvs.map fun p=>(g p.1,V.int p.2)) (g k)).getD (.int 0)=.int (cX kvs k)
 |[]=>rfl
 |p::r=>by
  by_cases h:p.1=k
  .rw[map_cons,ip (show g p.1=g k by rw[h]),Sg35.gv h];rfl
  .rw[map_cons,iq (fun e=>h (inj _ _ e)),Sg35.gu h];exact u3 inj k r
theorem Ax(inj:∀a b,g a=g b->a=b){k:D}:∀{kvs:List (D×Int)},k∈kvs.map (·.1)->dJ (kvs.map fun p=>(g p.1,V.int p.2)) (g k)=some (.int (cX kvs k))
 |[],h=>by cases h
 |p::r,h=>by
  by_cases e:p.1=k
  .rw[map_cons,ip (show g p.1=g k by rw[e]),Sg35.gv e]
  .rw[map_cons,iq (fun z=>e (inj _ _ z)),Sg35.gu e];rw[map_cons,mem_cons]at h;exact Ax inj (h.resolve_left fun z=>e z.symm)
theorem Dd(inj:∀a b,g a=g b->a=b)(k:D)(v:Int)(kvs:List (D×Int)):putK (kvs.map fun p=>(g p.1,V.int p.2)) (g k) (.int v)=(gG kvs k v).map fun p=>(g p.1,V.int p.2):=by
 unfold putK gG;have e1:∀p:D×Int,decide (g p.1=g k)=decide (p.1=k):=fun p=>by
  rw[Bool.eq_iff_iff,decide_eq_true_eq,decide_eq_true_eq];exact⟨inj _ _,fun z=>by rw[z]⟩
 have e:(kvs.map fun p=>(g p.1,V.int p.2)).any (fun kv=>decide (kv.1=g k))=kvs.any fun p=>decide (p.1=k):=by
  rw[List.any_map];congr 1
  funext p
  exact e1 p
 rw[e];split
 .rw[map_map,map_map];refine map_congr_left fun p _=>?_
  show(if g p.1=g k then(g p.1,V.int v)else(g p.1,V.int p.2))=(g (if p.1=k then(p.1,v)else p).1,V.int (if p.1=k then(p.1,v)else p).2);by_cases h:p.1=k
  .rw[if_pos h,if_pos (show g p.1=g k by rw[h])]
  .rw[if_neg h,if_neg fun z=>h (inj _ _ z)]
 .rw[map_append];rfl
end
theorem wM(a b:Int)(h:(Sum.inl a:Key)=Sum.inl b):a=b:=Sum.inl.inj h
theorem Co{H:Hp}{d:Addr}{kvs:List (Int×Int)}(h:kF H d kvs)(k:Int):∃o,fY H d (.int k) o/\o.getD (.int 0)=.int (cX kvs k):=⟨_,.inl ⟨_,Sum.inl k,.inl h,rfl,rfl⟩,u3 (g:=fun z=>(Sum.inl z:Key)) wM k kvs⟩
theorem Cn{H:Hp}{d:Addr}{kvs:List (Int×Int)}(h:kF H d kvs)(hl:kvs.length<sizeLine)(k v:Int):FZ H d (.int k) (.int v) (upd H d (.dK ((gG kvs k v).map fun p=>((Sum.inl p.1:Key),V.int p.2)))):=
 .inl ⟨_,Sum.inl k,h,rfl,by rw[length_map];exact hl,by rw[<-Dd (g:=fun z=>(Sum.inl z:Key)) wM k v kvs]⟩
theorem xg{W lo hi:Int}{kvs:List (Int×Int)}(hW:nu W lo hi)(h:xk W lo hi kvs):kvs.length<sizeLine:=by
 obtain⟨w1,w2,w3,w4,w5⟩:=hW;have h1:=Sg35.n8 rfl h.1 h.2;have h2:hi*(W+1)<=1024*1025:=Int.mul_le_mul w5 (by omega) (by omega) (by omega);have h3:0<=lo*(W+1):=mul_nonneg w3 (by omega);rw[length_map]at h1;rw[sizeLine_eq];omega
theorem WA{W lo hi r q v:Int}{kvs:List (Int×Int)}(hW:nu W lo hi)(h:xk W lo hi kvs)(h1:lo<=r)(h2:r<hi)(h3:0<=q)(h4:q<=W):xk W lo hi (gG kvs (r*(W+1)+q) v):=by
 refine⟨Sg35.qC h.1,fun k hk=>?_⟩;rcases qD hk with z|z
 .exact h.2 k z
 .rw[z];have k1:=Sg35.lN (r:=r) (y:=hi) (x:=0) hW.1 h4 (Int.le_refl _) h2;have k2:lo*(W+1)<=r*(W+1):=Int.mul_le_mul_of_nonneg_right h1 (by have:=hW.1;omega);omega
theorem We{z:Int}(h:z.natAbs<=2^56):(2048-z).natAbs<=2^57:=by omega
theorem Vd{z:Int}(h:z.natAbs<=2^56):(br z).natAbs<=2^50:=by unfold br;omega
theorem W0{lo hi p q:Int}(h1:0<=lo)(h2:lo<=hi)(h3:hi<=1024)(h4:p.natAbs<=2^50)(h5:q.natAbs<=2^50):-(2^62)<=max lo p/\max lo p<2^62/\-(2^62)<=min hi q/\min hi q<2^62:=
 have a:=Nf (mxb (LC h1 (Int.le_trans h2 h3)) h4)
 ⟨a.1,a.2,Nf (mnb (LC (Int.le_trans h1 h2) h3) h5)⟩
theorem RI{u l r:Int}(h1:br u<=r)(h2:r<br l):u<l:=by
 have a1:=Sg35.iZ.mp h1;have a2:=Sg35.jf.mp h2;omega
def xG(W:Int)(u l:Pt)(t r:Int):Int:=if r*(W+1)+Sg35.cl W (cY u l r)<=t then 1 else 0
theorem Sa:T.PK:=by
 refine T.Gf.fn.okA Q7 fun H Q E hr h=>?_
 obtain⟨y,rfl,k⟩:=h;refine⟨_,(ah (aD (ju fZ (ao i9 (ao cg (aB T.wW) (pv 0)) (aB T.jn))))),?_⟩;exact⟨_,rfl,_,_,rfl,rfl,_,_,rfl,rfl,⟨by decide,by decide⟩,_,rfl,k⟩
theorem SV(DS:T.PK):T.Qo:=by
 refine T.NX.fn.okA f9 fun H Q E hr h=>?_
 obtain⟨d,b,wd,kvs,u,l,c,W,lo,hi,rfl,hd,hok,⟨c1,c2,hb,h1,h2⟩,hu,hl,hle,⟨dw,hw⟩,hW,k⟩:=h;refine⟨_,(aa (aw 4 f9.nd (az aA (pv 1) ag))
   (aa (aw 5 f9.nd (az aA (pv 1) ag))
   (aa (aw 6 f9.nd (ao aH (aB T.jn) (ao cg (az aA (pv 5) ag) (az aA (pv 4) ag))))
   (aa (aw 7 f9.nd (ao aH (aB T.jn) (ao cg (az aA (pv 5) ag) (az aA (pv 4) ag))))
   (aa (aw 8 f9.nd (ao cg (ao aH (ao cg (aB T.wW) (az aA (pv 4) ag)) (ao cg (az aA (pv 5) ag) (az aA (pv 4) ag))) (ao aH (ao cg (aB T.wW) (az aA (pv 4) ag)) (ao cg (az aA (pv 5) ag) (az aA (pv 4) ag)))))
   (aa (aw 9 f9.nd (aL (oG rfl) T.sD (ai (ax (pv 3)) (pa1 (pcD DS hr T.Gf cp (pa1 (az aA (pv 4) ag)))))))
   (ah (fH (nZ (by rfl) T.fq (ai (pv 9) (pa1 (aL (oF rfl) T.Cq (ai (ax (pv 3)) (pa1 (pcD DS hr T.Gf cp (pa1 (az aA (pv 5) ag))))))))) (bG 10 f9.nd) (aa (aw 11 f9.nd (ju fZ (ao jY (ao cg (pv 8) (ao aH (pv 7) (pv 10))) (pv 6))))
   (aa (aR (aF uh (pv 11) ag) (ah (aw 11 f9.nd ag)) (ah (aR (aF jX (pv 11) (ax (pv 3))) (ah (aw 11 f9.nd (ax (pv 3)))) aI)))
   (aa (aw 12 f9.nd (ao aQ (ao aH (pv 10) (ax (pv 3))) (pv 11)))
   (ah (Df (gZ hr) (pv 0) (pv 12) (ao aQ (mF (gZ hr) (pv 0) (pv 12) ag ⟨rfl,rfl,rfl,rfl⟩) (pv 2)) rfl))))))))))))),?_⟩
 dsimp only[bq];obtain⟨u1,u2⟩:=hu;obtain⟨l1,l2⟩:=hl;have r1:=Vd u2;have r2:=Vd l2;have hW':=hW;obtain⟨w1,w2,w3,w4,w5⟩:=hW';refine⟨_,rfl,_,_,_,_,rfl,rfl,(SqT.of hb),rfl,?_⟩;refine⟨_,rfl,_,_,_,_,rfl,rfl,(SqT.of hb),rfl,?_⟩;refine⟨_,rfl,_,_,_,_,rfl,rfl,(SqT.of h2),rfl,_,rfl,_,_,_,_,rfl,rfl,(SqT.of h1),rfl,_,_,rfl,rfl,_,_,rfl,rfl,cmL (by decide),?_⟩;refine⟨_,rfl,_,_,_,_,rfl,rfl,(SqT.of h2),rfl,_,rfl,_,_,_,_,rfl,rfl,(SqT.of h1),rfl,_,_,rfl,rfl,_,_,rfl,rfl,cmL (by decide),?_⟩;refine⟨_,rfl,_,_,_,_,rfl,rfl,(SqT.of h1),rfl,_,_,rfl,rfl,_,rfl,_,_,_,_,rfl,rfl,(SqT.of h2),rfl,_,rfl,_,_,_,_,rfl,rfl,(SqT.of h1),rfl,_,_,rfl,rfl,_,_,rfl,rfl,cmI (We u1),_,rfl,_,_,_,_,rfl,rfl,(SqT.of h1),rfl,_,_,rfl,rfl,_,rfl,_,_,_,_,rfl,rfl,(SqT.of h2),rfl,_,rfl,_,_,_,_,rfl,rfl,(SqT.of h1),rfl,_,_,rfl,rfl,_,_,rfl,rfl,cmI (We u2),_,_,rfl,rfl,?_⟩;refine⟨_,rfl,_,_,_,_,_,rfl,hw,T.bc,T.ef,kY,_,rfl,_,_,_,_,rfl,rfl,(SqT.of h1),rfl,_,rfl,_,_,rfl,?_⟩;rw[Ik];obtain⟨s1,s2,s3,s4⟩:=W0 w3 w4 w5 r1 r2;refine⟨_,rfl,_,rfl,_,_,_,_,_,rfl,hw,T.bc,T.bU,eU,_,rfl,_,_,_,_,rfl,rfl,(SqT.of h2),rfl,_,rfl,_,_,rfl,_,_,rfl,⟨s1,s2,by rw[yr];exact s3,by rw[yr];exact s4⟩,?_⟩;rw[yr];refine iJ (fun i Y' H'=>∃ji o1 o2 o3,Y'=[some (.ref d),some (.ref b),some (.int c),some (.ref wd),some (.ref c1),some (.ref c2),some (.int (4096*(l.2-u.2))),some (.int (4096*(l.1-u.1))),some (.int (lead u l)),some (.int (max lo (br u.2))),o1,o2,o3]/\af [d] H H'/\kF H' d ji/\xk W lo hi ji/\
  ∀t,Sg35.acc ji t=Sg35.acc kvs t+c*((Sg35.rng (max lo (br u.2)) (max lo (br u.2)+(i:Int))).map (xG W u l t)).sum)
  ⟨kvs,none,none,none,rfl,af.refl,hd,hok,fun t=>by rw[i0 (by omega)];simp⟩ (fun i Y' H' hin ⟨ji,o1,o2,o3,e1,e2,e3,e4,e5⟩=>?_) (fun Y' H' ⟨ji,o1,o2,o3,e1,e2,e3,e4,e5⟩=>?_)
 .subst e1;obtain⟨r,hr0⟩:∃r,r=max lo (br u.2)+(i:Int):=⟨_,rfl⟩;rw[<-hr0];have hra:=Vc hin hr0;have hul:=RI hra.2.2.1 hra.2.2.2;have hrb:r.natAbs<=2^10:=Q1 (Int.le_trans w3 hra.1) (Int.le_of_lt (Int.lt_of_lt_of_le hra.2.1 w5));have hdv:∀{z:Int},Nq z (4096*(l.2-u.2)):=⟨Int.mul_pos (by decide) (Int.sub_pos_of_lt hul),wK (dM (p:=12) (by decide) (Gs l2 u2))⟩;have hb:=e2.kp _ _ hb (iC hb hd (fun z=>nomatch z) |> fun z=>by simpa using z);have hw:=e2.kp _ _ hw (iC hw hd (fun z=>nomatch z) |> fun z=>by simpa using z);have nxt:∀q,q=Sg35.cl W (cY u l r)->∀Y2:L2.St,Y2=[some (.ref d),some (.ref b),some (.int c),some (.ref wd),some (.ref c1),some (.ref c2),some (.int (4096*(l.2-u.2))),some (.int (4096*(l.1-u.1))),some (.int (lead u l)),some (.int (max lo (br u.2))),some (.int r),some (.int q),some (.int (r*(W+1)+q))]->
   ∃II o1 o2 o3,Y2=[some (.ref d),some (.ref b),some (.int c),some (.ref wd),some (.ref c1),some (.ref c2),some (.int (4096*(l.2-u.2))),some (.int (4096*(l.1-u.1))),some (.int (lead u l)),some (.int (max lo (br u.2))),o1,o2,o3]/\
    af [d] H (upd H' d (.dK ((gG ji (r*(W+1)+q) (cX ji (r*(W+1)+q)+c)).map fun p=>((Sum.inl p.1:Key),V.int p.2))))/\kF (upd H' d (.dK ((gG ji (r*(W+1)+q) (cX ji (r*(W+1)+q)+c)).map fun p=>((Sum.inl p.1:Key),V.int p.2)))) d II/\xk W lo hi II/\
    ∀t,Sg35.acc II t=Sg35.acc kvs t+c*((Sg35.rng (max lo (br u.2)) (max lo (br u.2)+((i+1:Nat):Int))).map (xG W u l t)).sum:=by
   intro q hq Y2 hY;refine⟨_,_,_,_,hY,e2.trans (af.set (by simp) (by rw[e3];exact trivial)),ae,WA hW e4 hra.1 hra.2.1 (by rw[hq];exact Sg35.JA w1) (by rw[hq];exact Sg35.xf w1),fun t=>?_⟩;have a1:Sg35.acc (gG ji (r*(W+1)+q) (cX ji (r*(W+1)+q)+c)) t=Sg35.acc ji t+c*(if r*(W+1)+q<=t then 1 else 0):=jN e4.1;have a2:xG W u l t r=if r*(W+1)+q<=t then 1 else 0:=by unfold xG;rw[<-hq]
   rw[a1,e5 t,show max lo (br u.2)+((i+1:Nat):Int)=max lo (br u.2)+(i:Int)+1 by omega,jW (by omega),Sg35.ml,<-hr0,<-a2];show _=_+c*(_+(xG W u l t r+0));rw[add_zero,mul_add];omega
  refine⟨_,rfl,_,rfl,_,rfl,_,_,rfl,rfl,cmJ hrb,_,_,rfl,rfl,_,rfl,_,_,rfl,rfl,hdv,_,rfl,?_⟩;refine⟨_,rfl,_,_,rfl,rfl,decide (cY u l r<0),rfl,?_⟩;by_cases q1:cY u l r<0
  .rw[decide_eq_true q1];have hq:(0:Int)=Sg35.cl W (cY u l r):=by unfold Sg35.cl;rw[if_pos q1]
   refine a9 ?_;obtain⟨o,g1,g2⟩:=Co e3 (r*(W+1)+Sg35.cl W (cY u l r));rw[<-hq]at g1 g2;refine⟨_,rfl,_,rfl,_,_,_,_,_,rfl,hw,T.bc,T.aY,cu,_,_,rfl,rfl,cmI hrb,_,rfl,_,_,rfl,rfl,_,rfl,d,rfl,.inl ⟨_,.inl e3⟩,_,rfl,o,g1,_,rfl,_,_,g2,rfl,_,rfl,_,rfl,d,_,rfl,Cn e3 (xg hW e4) _ _,?_⟩;exact nxt _ hq _ rfl
  refine dF q1 ⟨_,rfl,_,rfl,_,_,_,_,_,rfl,hw,T.bc,T.du,kI,_,_,rfl,rfl,decide (W<cY u l r),rfl,?_⟩;by_cases q2:W<cY u l r
  .rw[decide_eq_true q2];have hq:W=Sg35.cl W (cY u l r):=by unfold Sg35.cl;rw[if_neg q1,if_pos q2]
   refine a9 ⟨_,rfl,_,_,_,_,_,rfl,hw,T.bc,T.du,kI,?_⟩;obtain⟨o,g1,g2⟩:=Co e3 (r*(W+1)+Sg35.cl W (cY u l r));rw[<-hq]at g1 g2;refine⟨_,rfl,_,rfl,_,_,_,_,_,rfl,hw,T.bc,T.aY,cu,_,_,rfl,rfl,cmI hrb,_,rfl,_,_,rfl,rfl,_,rfl,d,rfl,.inl ⟨_,.inl e3⟩,_,rfl,o,g1,_,rfl,_,_,g2,rfl,_,rfl,_,rfl,d,_,rfl,Cn e3 (xg hW e4) _ _,?_⟩;exact nxt _ hq _ rfl
  .rw[decide_eq_false q2];have hq:cY u l r=Sg35.cl W (cY u l r):=by unfold Sg35.cl;rw[if_neg q1,if_neg q2]
   refine aT ?_;obtain⟨o,g1,g2⟩:=Co e3 (r*(W+1)+Sg35.cl W (cY u l r));rw[<-hq]at g1 g2;refine⟨_,rfl,_,rfl,_,_,_,_,_,rfl,hw,T.bc,T.aY,cu,_,_,rfl,rfl,cmI hrb,_,rfl,_,_,rfl,rfl,_,rfl,d,rfl,.inl ⟨_,.inl e3⟩,_,rfl,o,g1,_,rfl,_,_,g2,rfl,_,rfl,_,rfl,d,_,rfl,Cn e3 (xg hW e4) _ _,?_⟩;exact nxt _ hq _ rfl
 .subst e1;refine k ji H' e2 e3 e4 fun t=>?_
  rw[e5 t,xZ];rfl
 end Pg
namespace Pg
open PySem PySem.Spec PyProof.Rows L2 TL
variable{P:Program}{w:World}{K:Frag}{mg:Str->Option Value}{bZ:Heap}{a:Adr}(T:TX P w K mg bZ a)
theorem vW(a b:Pt×Pt)(h:pk a=pk b):a=b:=RQ h
theorem HS{P:Program}{w:World}{pcs:List ((Pt×Pt)×Int)}(k:Pt×Pt):(dJ (pkv pcs) (pk k)).getD (.int 0)=.int (cX pcs k):=u3 (g:=pk) vW k pcs
theorem HR{pcs:List ((Pt×Pt)×Int)}(k:Pt×Pt)(v:Int):putK (pkv pcs) (pk k) (.int v)=pkv (gG pcs k v):=Dd (g:=pk) vW k v pcs
theorem CD{H:Hp}{b c1 c2:Addr}{u l:Pt}(hb:H b=none)(h1:SnT H c1 u)(h2:SnT H c2 l):Tp2 (upd H b (.tup [.ref c1,.ref c2])) b (pk (u,l)):=by
 refine⟨[c1,c2],ae,.cons ?_ (.cons ?_ .nil)⟩
 .rw[aq (ak h1 hb)];exact h1
 .rw[aq (ak h2 hb)];exact h2
theorem QN{H:Hp}{b:Addr}{u l:Pt}(h:Tp2 H b (pk (u,l))):WG H b u l:=by
 obtain⟨cs,e,r⟩:=h;cases r with
 |cons r1 r2=>
  cases r2 with
  |cons r2 r3=>
   cases r3;exact⟨_,_,e,r1,r2⟩
theorem Fx{m:Mat}{z:Pt}(hs:Small m)(hz:l9 z):Ao (moved m z):=by
 have a1:m.a.natAbs<=2^24:=hs m.a (by simp);have a2:m.b.natAbs<=2^24:=hs m.b (by simp);have a3:m.c.natAbs<=2^24:=hs m.c (by simp);have a4:m.d.natAbs<=2^24:=hs m.d (by simp);have a5:m.e.natAbs<=2^24:=hs m.e (by simp);have a6:m.f.natAbs<=2^24:=hs m.f (by simp);obtain⟨z1,z2⟩:=hz;have z1:z.1.natAbs<=2^28:=z1;have z2:z.2.natAbs<=2^28:=z2;have f12:(4096:Int).natAbs<=2^12:=by decide
 exact⟨pR (lC (lC (dM a1 z1) (dM a3 z2)) (pR (dM a5 f12) (by decide))) (by decide),pR (lC (lC (dM a2 z1) (dM a4 z2)) (pR (dM a6 f12) (by decide))) (by decide)⟩
theorem Jg{m:Mat}(hs:Small m):Mid (mY m):=by
 have a1:=hs m.a (by simp);have a2:=hs m.b (by simp);have a3:=hs m.c (by simp);have a4:=hs m.d (by simp);have a5:=hs m.e (by simp);have a6:=hs m.f (by simp);intro z hz;unfold mY at hz;simp only[mem_cons,not_mem_nil,or_false]at hz;rcases hz with rfl|rfl|rfl|rfl|rfl|rfl<;>lia
theorem xA{f:Nat->Int}(n:Nat):((List.range (n+1)).map f).sum=((List.range n).map f).sum+f n:=by
 rw[range_succ,map_append,sum_append];simp
theorem qF{ls:Lines}{i:Nat}{l:List Pt}(h:ls[i]?=some l):pts (ls.take (i+1))=pts (ls.take i)+l.length:=by
 rw[take_succ,h];exact mz _ _
theorem Hz(ls:Lines)(i:Nat):pts (ls.take i)<=pts ls:=by
 conv=>rhs;rw[<-List.take_append_drop i ls]
 unfold pts;rw[map_append,sum_append]
 lia
theorem vA{m:Mat}{ls:Lines}{i:Nat}{l:List Pt}{F:Pt×Pt->Int}(h:ls[i]?=some l):
  iW m (ls.take (i+1)) F=iW m (ls.take i) F+((List.range (l.map (moved m)).length).map fun j=>gp (cz (l.map (moved m)) j).1 (cz (l.map (moved m)) j).2*F (fI (cz (l.map (moved m)) j).1 (cz (l.map (moved m)) j).2)).sum:=by
 rw[Sg35.AS (l.map (moved m)) fun s=>gp s.1 s.2*F (fI s.1 s.2),take_succ,h];unfold iW cE;rw[List.flatMap_append,map_append,sum_append];show _+((List.flatMap (fun l=>Sg35.sides (l.map (moved m))) [l]).map _).sum=_;rw[flatMap_cons,List.flatMap_nil,append_nil]
theorem Dj{pcs:List ((Pt×Pt)×Int)}{k:Pt×Pt}{v:Int}(h:Ak pcs)(h1:Ao k.1)(h2:Ao k.2)(h3:k.1.2<=k.2.2):Ak (gG pcs k v):=by
 refine⟨Sg35.qC h.1,fun j hj=>?_⟩;rcases qD hj with z|z
 .exact h.2 j z
 .rw[z];exact⟨h1,h2,h3⟩
theorem uq{l:List Pt}:l.getLastD (0,0)=l.getD (l.length-1) (0,0):=by
 rcases List.eq_nil_or_concat l with rfl|⟨r,x,rfl⟩
 .rfl
 .simp[List.concat_eq_append]
theorem getD_mem{l:List Pt}{i:Nat}(h:i<l.length):l.getD i (0,0)∈l:=by
 rw[List.getD_eq_getElem?_getD,List.getElem?_eq_getElem h];exact List.getElem_mem h
theorem xS{l:List Pt}{j:Nat}(h:j<l.length):(cz l j).1∈l/\(cz l j).2∈l:=by
 unfold cz;refine⟨?_,getD_mem h⟩;dsimp only;split
 .rw[uq];exact getD_mem (by lia)
 .exact getD_mem (by lia)
theorem LW{H:Hp}{ts:List Addr}{qs:List Pt}(h:Paired (SnT H) ts qs){j:Nat}(hj:j<qs.length):
  ∃t1 t2,atI (ts.map V.ref) ((j:Int)-1)=some (.ref t1)/\SnT H t1 (cz qs j).1/\atI (ts.map V.ref) (j:Int)=some (.ref t2)/\SnT H t2 (cz qs j).2:=by
 have hl:ts.length=qs.length:=Paired.length h;have get:∀{ts:List Addr}{qs:List Pt},Paired (SnT H) ts qs->∀i:Nat,i<qs.length->∃t,ts[i]?=some t/\SnT H t (qs.getD i (0,0)):=by
  intro ts qs h;induction h with
  |nil=>intro i hi;cases hi
  |cons x y ih=>
   intro i hi;cases i with
   |zero=>exact⟨_,rfl,x⟩
   |succ i=>exact ih i (by simpa using hi)
 obtain⟨t2,e2,s2⟩:=get h j hj;have a2:atI (ts.map V.ref) (j:Int)=some (.ref t2):=dm (by rw[List.getElem?_map,e2];rfl);cases j with
 |zero=>
  obtain⟨t1,e1,s1⟩:=get h (qs.length-1) (by lia);refine⟨t1,t2,?_,?_,a2,s2⟩
  .rw[show((0:Nat):Int)-1=-1 by lia];rcases List.eq_nil_or_concat ts with e|⟨r,x,e⟩
   .rw[e]at hl;simp at hl;lia
   .rw[List.concat_eq_append]at e;subst e;have:x=t1:=by
     rw[<-hl]at e1;simpa using e1
    subst this;rw[map_append];exact gP _ _
  .show SnT H t1 (qs.getLastD (0,0));rw[uq];exact s1
 |succ j=>
  obtain⟨t1,e1,s1⟩:=get h j (by lia);refine⟨t1,t2,?_,s1,a2,s2⟩;rw[show((j+1:Nat):Int)-1=(j:Int) by lia];exact dm (by rw[List.getElem?_map,e1];rfl)
theorem Si(kR:T.xj):T.PR:=by
 refine T.NA.fn.okA jU fun H Q E hr h=>?_
 obtain⟨l,p,rs,ls,m,rfl,hl,hls,hpt,hlen,hm,hs,k⟩:=h;refine⟨_,(aa (aw 2 jU.nd HN)
   (aa (fH (kM (pv 0)) (bG 3 jU.nd) (aa (HC (i:=4) rfl jU.nd rfl rfl rfl (kM (pv 3)) (fW (own:=[("place",7)]) (by with_unfolding_all rfl)) (fun s H C cl fp=>(bG 7 jU.nd)) (fun s H C cl fp=>gV) (fun s H C cl fp=>(pcD kR hr T.vh cp (ai (pv 1) (pa1 (pv 7))))))
   (ah (fH (ue (by rfl) T.fq (pa1 (aL aP T.cC (pa1 (pv 4))))) (bG 5 jU.nd) (ah (aR (aF qR (az aA (az bh (pv 4) (ao cg (pv 5) ag)) ag) (az aA (az bh (pv 4) (pv 5)) ag)) (aa (aw 6 jU.nd (bH (ai (az bh (pv 4) (ao cg (pv 5) ag)) (pa1 (az bh (pv 4) (pv 5))))))
   (ah (x9 (oq hr) (pv 2) (pv 6) (ao aQ (uf (oq hr) (pv 2) (pv 6) ag ⟨rfl,rfl,rfl,rfl⟩) ag) rfl))) (aa (aw 6 jU.nd (bH (ai (az bh (pv 4) (pv 5)) (pa1 (az bh (pv 4) (ao cg (pv 5) ag))))))
   (ah (x9 (oq hr) (pv 2) (pv 6) (ao cg (uf (oq hr) (pv 2) (pv 6) ag ⟨rfl,rfl,rfl,rfl⟩) ag) rfl)))))))))
   (ah (aD (pv 2))))),?_⟩
 dsimp only[bq];refine fun d o hd hp=>⟨_,rfl,l,rfl,⟨_,SqL.of (by rw[aq (ak hl hd)];exact hl)⟩,?_⟩
 refine mX (xs:=rs.map V.ref) (fun i Y' H'=>∃pcs u o1 o2 o3 o4,Y'=[some (.ref l),some (.ref p),some (.ref d),o1,o2,o3,o4,none]/\af [] H H'/\H' d=some u/\PD P w H' d (pkv pcs) u/\Ak pcs/\pcs.length<=pts (ls.take i)/\∀F,sumF pcs F=iW m (ls.take i) F)
  ⟨[],o,none,none,none,none,rfl,af.new hd,ae,hp,⟨nodup_nil,fun k hk=>by cases hk⟩,zero_le _,fun F=>rfl⟩ (fun i Y' H' _ ⟨pcs,u,o1,o2,o3,o4,e1,e2,_⟩=>SqL.of (e2.at hl)) (fun i x Y' H' hi ⟨pcs,u,o1,o2,o3,o4,e1,e2,e3,e4,e5,e6,e7⟩=>?_) (fun Y' H' ⟨pcs,u,o1,o2,o3,o4,e1,e2,e3,e4,e5,e6,e7⟩=>?_)
 case refine_2=>
  subst e1;have V7:rs.length=ls.length:=hls.length;rw[length_map,V7,take_length]at e7;exact⟨_,rfl,k pcs d u H' hd e2 e3 e4 e5 e7⟩
 subst e1;rw[List.getElem?_map]at hi;obtain⟨r,hr,rfl⟩:=map_eq_some_iff.mp hi;obtain⟨e,he,yL⟩:∃e,ls[i]?=some e/\kE K H' r e:=by
  have get:∀{rs:List Addr}{ls:Lines},bS K H rs ls->∀{i:Nat}{r:Addr},rs[i]?=some r->∃e,ls[i]?=some e/\kE K H r e:=by
   intro rs ls h;unfold bS at h;induction h with
   |nil=>intro i r hr;simp at hr
   |cons x y ih=>
    intro i r hr;cases i with
    |zero=>cases hr;exact⟨_,rfl,x⟩
    |succ i=>exact ih hr
  obtain⟨e,h1,ts,h2,h3⟩:=get hls hr;exact⟨e,h1,ts,e2.at h2,h3.keep e2⟩
 obtain⟨ts,hr1,hts⟩:=yL;have mT:=mem_of_getElem? he;have hel:e.length<=16000000:=by
  have a1:=qF he;have a2:=Hz ls (i+1)
  lia
 refine⟨_,rfl,r,rfl,⟨_,SqL.of hr1⟩,fun D hD=>?_⟩;refine ME (xs:=ts.map V.ref) (fun j H2=>∃qs,af [] H' H2/\H2 D=some (.lst (qs.map V.ref))/\Paired (SnT H2) qs ((e.take j).map (moved m))) ⟨[],af.new hD,ae,.nil⟩ (fun j H2 _ ⟨qs,f1,_⟩=>SqL.of (f1.at hr1)) (fun j x H2 hj ⟨qs,f1,f2,f3⟩=>?_) (fun H2 ⟨qs,f1,f2,f3⟩=>?_)
 .rw[List.getElem?_map]at hj;obtain⟨t,ht,rfl⟩:=map_eq_some_iff.mp hj;obtain⟨z,hz,htz⟩:∃z,e[j]?=some z/\PtT K H2 t z:=by
   have get:∀{ts:List Addr}{e:List Pt},cZ K H' ts e->∀{j:Nat}{t:Addr},ts[j]?=some t->∃z,e[j]?=some z/\PtT K H' t z:=by
    intro ts e h;unfold cZ at h;induction h with
    |nil=>intro j t ht;simp at ht
    |cons x y ih=>
     intro j t ht;cases j with
     |zero=>cases ht;exact⟨_,rfl,x⟩
     |succ j=>exact ih ht
   obtain⟨z,h1,h2⟩:=get hts ht;exact⟨z,h1,h2.keep f1⟩
  refine⟨rfl,_,rfl,_,rfl,p,t,mY m,z,rfl,f1.sqT (e2.sqT hm),Jg hs,htz,fun q hq=>⟨_,(by rw[aq (ak f2 hq)];exact f2),?_,qs++[q],?_,?_,?_⟩⟩
  .rw[length_map,Paired.length f3,length_map,length_take,sizeLine_eq]
   lia
  .exact af.drop (f1.trans (af.new hq)) (af.set (by simp) (by rw[aq (ak f2 hq),f2];exact trivial)) hD
  .rw[ae,map_append];rfl
  .have:=b0.push (s:=mvP (mY m) z) f2 f3 hq;rw[take_succ,hz,map_append];rw[Im]at this ⊢;obtain⟨ts2,g1,g2⟩:=this;rw[ae]at g1;have:ts2=qs++[q]:=by
    have g1:qs.map V.ref++[V.ref q]=ts2.map V.ref:=by injection g1 with g1;injection g1
    rw[<-List.map_singleton,<-map_append]at g1;exact((List.map_inj_right fun a b z=>by injection z).mp g1).symm
   rw[this]at g2;exact g2
 have tl:(ts.map V.ref).length=e.length:=by rw[length_map];exact hts.length
 rw[tl,take_length]at f3;have hD0:H D=none:=e2.bP hD;have kH2:af [] H H2:=e2.trans f1;have hql:qs.length=e.length:=by rw[Paired.length f3,length_map]
 refine⟨_,rfl,D,_,rfl,.inl (SqL.of f2),_,rfl,by lia,by rw[length_map];lia,?_⟩;rw[length_map,toNat_natCast,hql];refine iJ (fun j Y' H3=>∃mG u' o5 o6,Y'=[some (.ref l),some (.ref p),some (.ref d),some (.ref r),some (.ref D),o5,o6,none]/\af [d] H2 H3/\H3 d=some u'/\PD P w H3 d (pkv mG) u'/\Ak mG/\mG.length<=pts (ls.take i)+j/\
  ∀F,sumF mG F=iW m (ls.take i) F+((List.range j).map fun j=>gp (cz (e.map (moved m)) j).1 (cz (e.map (moved m)) j).2*F (fI (cz (e.map (moved m)) j).1 (cz (e.map (moved m)) j).2)).sum)
  ⟨pcs,u,_,_,rfl,af.refl,f1.at e3,e4.keeps f1.tp,e5,e6,fun F=>by rw[e7 F];simp⟩ (fun j Y' H3 hj ⟨mG,u',o5,o6,g1,g2,g3,g4,g5,g6,g7⟩=>?_) (fun Y' H3 ⟨mG,u',o5,o6,g1,g2,g3,g4,g5,g6,g7⟩=>?_)
 case refine_2=>
  subst g1;refine⟨mG,u',_,_,_,_,rfl,af.drop kH2 g2 hd,g3,g4,g5,by rw[qF he];exact g6,fun F=>?_⟩;rw[g7 F,vA he,length_map]
 subst g1;have hjq:j<(e.map (moved m)).length:=by rw[length_map];exact hj
 have fD:H3 D=some (.lst (qs.map V.ref)):=g2.kp _ _ f2 (by simpa using (fun z:D=d=>by rw[z,e3]at hD;cases hD));obtain⟨t1,t2,a1,s1,a2,s2⟩:=LW (Paired.rn f3 fun x y z=>g2.tp _ _ z:Paired (SnT H3) qs (e.map (moved m))) hjq;have Wd:∀z∈e.map (moved m),Ao z:=fun z hz=>by
  obtain⟨y,hy,rfl⟩:=mem_map.mp hz;exact Fx hs (hpt e mT y hy)
 have f1':=Wd _ (xS hjq).1;have f2':=Wd _ (xS hjq).2;have hpl:pts (ls.take i)+e.length<=16000000:=by
  have z1:=qF he;have z2:=Hz ls (i+1)
  lia
 have hlt:(pkv mG).length<sizeLine:=by
  unfold pkv;rw[length_map,sizeLine_eq]
  lia
 refine⟨_,rfl,_,rfl,_,_,rfl,rfl,_,_,_,_,rfl,rfl,SqL.of fD,(by rw[zero_add];exact a1),_,_,_,_,rfl,rfl,SqT.of s1,rfl,_,rfl,_,rfl,_,_,_,_,rfl,rfl,SqL.of fD,(by rw[zero_add];exact a2),_,_,_,_,rfl,rfl,SqT.of s2,rfl,_,_,rfl,rfl,decide ((cz (e.map (moved m)) j).1.2<=(cz (e.map (moved m)) j).2.2),rfl,?_⟩;generalize hp1:(cz (e.map (moved m)) j).1=p1 at *;generalize hp2:(cz (e.map (moved m)) j).2=p2 at *;by_cases hle:p1.2<=p2.2
 .refine dT hle ⟨_,rfl,_,rfl,_,_,rfl,rfl,_,_,_,_,rfl,rfl,SqL.of fD,(by rw[zero_add];exact a1),_,rfl,_,rfl,_,_,_,_,rfl,rfl,SqL.of fD,(by rw[zero_add];exact a2),sl2,fun b hb=>?_⟩;have tp:=CD hb s1 s2;have hd4:upd H3 b (.tup [.ref t1,.ref t2]) d=some u':=by rw[aq (ak g3 hb)];exact g3
  have pd4:=g4.keeps (H':=upd H3 b (.tup [.ref t1,.ref t2])) fun c ys z=>by rw[aq (ak z hb)];exact z
  refine⟨_,rfl,d,rfl,⟨_,_,.inl hd4,pd4⟩,_,rfl,b,_,_,_,rfl,tp,.inl hd4,pd4,_,_,HS (P:=P) (w:=w) (p1,p2),rfl,_,rfl,_,rfl,d,b,_,_,_,rfl,rfl,tp,hd4,pd4,hlt,fun o' hp'=>?_⟩;rw[HR]at hp';refine⟨_,o',_,_,rfl,g2.trans ((af.new hb).trans (af.set (by simp) (by rw[hd4];exact pd4.mut))),ae,hp',Dj g5 f1' f2' hle,?_,fun F=>?_⟩
  .have:=qE mG (p1,p2) (cX mG (p1,p2)+1)
   lia
  .rw[jN g5.1,g7 F,xA,hp1,hp2,show gp p1 p2=1 from if_pos hle,show fI p1 p2=(p1,p2)from if_pos hle]
   lia
 .refine dF hle ⟨_,rfl,_,rfl,_,_,_,_,rfl,rfl,SqL.of fD,(by rw[zero_add];exact a2),_,rfl,_,rfl,_,_,rfl,rfl,_,_,_,_,rfl,rfl,SqL.of fD,(by rw[zero_add];exact a1),sl2,fun b hb=>?_⟩;have tp:=CD hb s2 s1;have hd4:upd H3 b (.tup [.ref t2,.ref t1]) d=some u':=by rw[aq (ak g3 hb)];exact g3
  have pd4:=g4.keeps (H':=upd H3 b (.tup [.ref t2,.ref t1])) fun c ys z=>by rw[aq (ak z hb)];exact z
  refine⟨_,rfl,d,rfl,⟨_,_,.inl hd4,pd4⟩,_,rfl,b,_,_,_,rfl,tp,.inl hd4,pd4,_,_,HS (P:=P) (w:=w) (p2,p1),rfl,_,rfl,_,rfl,d,b,_,_,_,rfl,rfl,tp,hd4,pd4,hlt,fun o' hp'=>?_⟩;change PD P w _ d (putK (pkv mG) (pk (p2,p1)) (.int (cX mG (p2,p1)+-1))) o' at hp';rw[HR]at hp';refine⟨_,o',_,_,rfl,g2.trans ((af.new hb).trans (af.set (by simp) (by rw[hd4];exact pd4.mut))),ae,hp',Dj g5 f2' f1' (show p2.2<=p1.2 by lia),?_,fun F=>?_⟩
  .have:=qE mG (p2,p1) (cX mG (p2,p1)+(-1))
   lia
  .rw[jN g5.1,g7 F,xA,hp1,hp2,show gp p1 p2=-1 from if_neg hle,show fI p1 p2=(p2,p1)from if_neg hle]
   lia
theorem Fu{P:Program}{w:World}{d:Addr}{ob:Obj}{kvs:List (K2×V)}{g:TG}{tb:TS}{D:Ends}{Y:L2.St}{H:Hp}(Pv:Nat->L2.St->Hp->Prop)(h0:Pv 0 Y H)(hl:∀i Y H,i<=kvs.length->Pv i Y H->∃u,H d=some (.frz ob u)/\PD P w H d kvs u)
  (hs:∀i k v q Y H,kvs[i]?=some (k,v)->Tp2 H q k->Pv i Y H->g (.ref q) Y H fun Y2 H2=>tb {D with nx:=Pv (i+1),ct:=Pv (i+1),bk:=D.nx} Y2 H2) (hd:∀Y H,Pv kvs.length Y H->D.nx Y H):
  ∃W:Nat->Nat->L2.St->Hp->Prop,(∃m,W 0 m Y H)/\∀i m Y H,W i m Y H->
   ((ItP P w d ob kvs).stop i H/\D.nx Y H)\/((ItP P w d ob kvs).go i H/\∃N:L2.St->Hp->Prop,(∀Y' H',N Y' H'->∃m',m'<m/\W (i+1) m' Y' H')/\∀x H',(ItP P w d ob kvs).yld i H x H'->g x Y H' fun Y2 H2=>tb {D with nx:=N,ct:=N,bk:=D.nx} Y2 H2):=by
 refine⟨fun i m Y H=>m=kvs.length-i/\i<=kvs.length/\Pv i Y H,⟨kvs.length,by simp,zero_le _,h0⟩,?_⟩;rintro i m Y H ⟨rfl,hi,p⟩;have q:=hl i Y H hi p;by_cases hlt:i<kvs.length
 .refine .inr ⟨⟨q,hlt⟩,Pv (i+1),fun Y' H' p'=>⟨kvs.length-(i+1),by lia,rfl,hlt,p'⟩,fun x H' y=>?_⟩;obtain⟨e,k,v,qa,h1,h2,h3⟩:=y;subst e;subst h2;exact hs i k v qa Y _ h1 h3 p
 .have e:i=kvs.length:=by lia
  subst e;exact .inl ⟨⟨q,le_refl _⟩,hd Y H p⟩
theorem F8{W lo hi t:Int}{m:Mat}{ls:Lines}:total W lo hi m ls t=iW m ls fun k=>Sg35.upTo W lo hi k t:=rfl
theorem SU(Kw:T.PR)(Lf:T.Qo):T.Qn:=by
 refine T.NW.fn.okA vK fun H Q E hr h=>?_
 obtain⟨o,p,wd,ls,m,W,lo,hi,rfl,⟨dx,l,rs,ho,hl,hls⟩,hLs,hm,hs,⟨dw,hw⟩,hW,k⟩:=h;refine⟨_,(aa (aw 3 vK.nd ye)
   (aa (aw 4 vK.nd (pcD Kw hr T.NA cp (ai (ax (pv 0)) (pa1 (pv 1)))))
   (aa (L8 (fH (HH (pv 4)) (bG 5 vK.nd) (ah (aR (aF jv (yf (oq hr) (pv 4) (pv 5) (fun _ _=>rfl)) ag) (ah (aK (pcD Lf hr T.NX cp (ai (pv 3) (ai (pv 5) (ai (yf (oq hr) (pv 4) (pv 5) (fun _ _=>rfl)) (pa1 (pv 2)))))))) aI))))
   (ah (aD (pv 3)))))),?_⟩
 dsimp only[bq];refine fun c hc=>?_
 have k1:af [] H (upd H c (.dK [])):=af.new hc;have hc1:kF (upd H c (.dK [])) c []:=ae;generalize upd H c (.dK [])=H1 at k1 hc1;have ho1:=k1.at ho;refine⟨_,rfl,_,_,_,_,_,rfl,ho1,T.sA,T.iD,EA,_,rfl,l,p,rs,ls,m,rfl,k1.at hl,hls.keep k1 (fun r _=>by simp),hLs.1,hLs.2,k1.sqT hm,hs,fun pcs d u H2 hd0 k2 hd hpd hok XB=>?_⟩;have hcd:c≠d:=fun z=>by
  unfold kF at hc1;rw[z,hd0]at hc1;cases hc1
 have MR:H d=none:=k1.bP hd0;have kc2:H2 c=some _:=k2.at hc1;refine⟨d,u,hd,hpd.mut,fun od=>?_⟩;have kL:af [d] H2 (upd H2 d (.frz od u)):=af.set (by simp) (by rw[hd];exact hpd.mut);have kHL:af [] H (upd H2 d (.frz od u)):=af.drop (k1.trans k2) kL MR;have hdL:upd H2 d (.frz od u) d=some (.frz od u):=ae;have pdL:PD P w (upd H2 d (.frz od u)) d (pkv pcs) u:=hpd.keeps kL.tp;have hcL:kF (upd H2 d (.frz od u)) c []:=by
  unfold kF;rw[aq hcd];exact kc2
 generalize upd H2 d (.frz od u)=HL at kL kHL hdL pdL hcL;have hwc:wd≠c:=ak hw hc;refine⟨_,rfl,d,od,u,pkv pcs,rfl,hdL,pdL,?_⟩;refine Fu (fun i Y' H'=>∃kvs o5,Y'=[some (.ref o),some (.ref p),some (.ref wd),some (.ref c),some (.ref d),o5]/\af [c] HL H'/\kF H' c kvs/\xk W lo hi kvs/\∀t,Sg35.acc kvs t=sumF (pcs.take i) fun q=>Sg35.upTo W lo hi q t)
  ⟨[],none,rfl,af.refl,hcL,⟨nodup_nil,fun k hk=>by cases hk⟩,fun t=>rfl⟩ (fun i Y' H' _ ⟨kvs,o5,e1,e2,_⟩=>⟨u,e2.fz _ _ _ hdL,pdL.keeps e2.tp⟩) (fun i kk v q Y' H' hin htp ⟨kvs,o5,e1,e2,e3,e4,e5⟩=>?_) (fun Y' H' ⟨kvs,o5,e1,e2,e3,e4,e5⟩=>?_)
 case refine_2=>
  subst e1;have hf:=e2.fz _ _ _ hdL;have kk:af [] H H':=af.drop kHL e2 hc;refine⟨hf,_,rfl,k c kvs _ ⟨fun b ob e _=>?_,fun b ob e=>?_,fun b ob ub e=>?_⟩ ?_ e4 fun t=>?_⟩
  .rw[aq (ak e MR)];exact kk.at e
  .rw[aq (ak e MR)];exact kk.tp _ _ e
  .rw[aq (ak e MR)];exact kk.fz _ _ _ e
  .unfold kF;rw[aq hcd];exact e3
  .rw[e5 t,F8,<-XB];unfold pkv;rw[length_map,take_length]
 subst e1;unfold pkv at hin;rw[List.getElem?_map]at hin;obtain⟨⟨key,val⟩,hp,he⟩:=map_eq_some_iff.mp hin;cases he;have mT:=mem_of_getElem? hp;have rN:key∈pcs.map (·.1):=mem_map_of_mem mT;have Fe:dJ (pkv pcs) (pk key)=some (.int val):=by
  have z:=Ax (g:=pk) vW rN;rw[Sg35.rW hok.1 mT]at z;exact z
 have hdH:=e2.fz _ _ _ hdL;have pdH:=pdL.keeps e2.tp;obtain⟨w1,w2,w3⟩:=hok.2 key rN;have tk:sumF (pcs.take (i+1))=fun F=>sumF (pcs.take i) F+val*F key:=by
  funext F
  unfold sumF;rw[take_succ,hp,map_append,sum_append];simp
 refine⟨_,rfl,_,rfl,d,q,pk key,_,u,_,rfl,rfl,htp,.inr ⟨od,hdH⟩,pdH,Fe,rfl,_,rfl,?_⟩;by_cases hz:val=0
 .have hz':(!decide (V.int val=V.int 0))=false:=by rw[hz];rfl
  rw[hz'];refine aT ⟨kvs,_,rfl,e2,e3,e4,fun t=>?_⟩;rw[e5 t,tk,hz];simp
 have hz':(!decide (V.int val=V.int 0))=true:=by
  rw[decide_eq_false (fun z=>hz (by injection z))];rfl
 rw[hz'];refine a9 ⟨_,rfl,_,rfl,_,rfl,_,rfl,d,q,pk key,_,u,_,rfl,rfl,htp,.inr ⟨od,hdH⟩,pdH,Fe,_,rfl,c,q,wd,kvs,key.1,key.2,val,W,lo,hi,rfl,e3,e4,QN htp,w1,w2,w3,⟨dw,e2.kp _ _ (kHL.at hw) (by simpa using hwc)⟩,hW,fun ji H3 k3 c3 o3 a3=>?_⟩;refine⟨ji,_,rfl,e2.trans k3,c3,o3,fun t=>?_⟩;rw[a3 t,e5 t,tk]
theorem Sh:T.PQ:=by
 refine T.Nz.fn.okA Q9 fun H Q E hr h=>?_
 obtain⟨n,odd,rfl,k⟩:=h;refine⟨_,(aa (aR (aF dr (pv 1) (aB T.su)) (ah (aD (kN dr (ao qQ (pv 0) ag) ag))) aI)
   (ah (aD (kN jv (pv 0) ag)))),?_⟩
 refine⟨_,rfl,rfl,odd,congrArg V.bl (by cases odd<;>decide +kernel),?_⟩;cases odd with
 |true=>
  refine a9 ⟨_,rfl,_,_,rfl,rfl,(by show(0:Int)<2;decide),rfl,?_⟩;show Q (V.bl (decide (V.int (n%2)=V.int 1))) H;rw[eqI];exact k
 |false=>
  refine aT ⟨_,rfl,rfl,?_⟩;show Q (V.bl (!decide (V.int n=V.int 0))) H;have e:decide (V.int n=V.int 0)=decide (n=0):=by
   have:=@eqI n 0;injection this
  rw[e];exact k
theorem Tc(Le:T.Qn)(Kv:T.PQ):T.QC:=by
 refine T.N8.fn.okA iY fun H Q E hr h=>?_
 obtain⟨o,p,wd,ls,m,odd,W,lo,hi,rfl,⟨dx,l0,rs,ho,hl0,hls⟩,hLs,hm,hs,⟨dw,hw⟩,hW,k⟩:=h;refine⟨_,(aa (aw 4 iY.nd (ao Mf (gH AQ (pv 1) vU (eY ag)) (bH (ai (ao aH (aB T.jn) (az aA (pv 1) ag)) (pa1 (ao aH (aB T.jn) (az aA (pv 1) ag)))))))
   (aa (aw 5 iY.nd (pcD Le hr T.NW cp (ai (pv 0) (ai (pv 4) (pa1 (pv 3))))))
   (aa (aw 6 iY.nd (cW lS))
   (aa (aw 7 iY.nd ag)
   (aa (aw 8 iY.nd ag)
   (aa (fH (kM (aL (Cg rfl) T.FW (pa1 (pv 5)))) (bG 9 iY.nd) (aa (aR (cV (pcD Kv hr T.Nz cp (ai (pv 7) (pa1 (pv 2))))) (ah (aK (iA PySem.F.plainAttrs_list PySem.F.slot_list_append PySem.F.type_list_append eN (pv 6) (pa1 (bH (ai (pv 8) (pa1 (pv 9)))))))) aI)
   (aa (RP (i:=7) iY.nd rfl (Or.inl rfl) (pM (gZ hr) (pv 5) (pv 9) (fun _ _=>rfl)) TZ)
   (ah (aw 8 iY.nd (pv 9))))))
   (ah (aD (pv 6))))))))),?_⟩
 dsimp only[bq];have a5:=hs m.e (by simp);have a6:=hs m.f (by simp);refine⟨_,rfl,_,rfl,p,_,rfl,hm,(fun z=>absurd z.2 (by show ¬((4:Nat)=6);decide)),fun t ht=>?_⟩;have kt:af [] H (upd H t (.tup (m8 (Mz m) none (some 4)))):=af.new ht;have st:SqT K (upd H t (.tup (m8 (Mz m) none (some 4)))) t [.int m.a,.int m.b,.int m.c,.int m.d]:=SqT.of ae;generalize upd H t (.tup (m8 (Mz m) none (some 4)))=H1 at kt st;refine⟨_,rfl,_,_,_,_,rfl,rfl,(kt.sqT hm),rfl,_,_,rfl,rfl,(by first|exact cmL (by lia)|exact cmR (by lia)),_,rfl,_,_,_,_,rfl,rfl,(kt.sqT hm),rfl,_,_,rfl,rfl,(by first|exact cmL (by lia)|exact cmR (by lia)),sl2,fun t2 ht2=>⟨t,t2,_,_,rfl,rfl,(af.new (M:=[]) ht2).sqT st,SqT.of ae,(by simp),sl6,(fun z=>by simp at z),fun _ t3 ht3=>?_⟩⟩;have k3:af [] H (upd (upd H1 t2 (.tup [.int (4096*m.e),.int (4096*m.f)])) t3 (.tup ([.int m.a,.int m.b,.int m.c,.int m.d]++[.int (4096*m.e),.int (4096*m.f)]))):=(kt.trans (af.new ht2)).trans (af.new ht3);have m3:dY K (upd (upd H1 t2 (.tup [.int (4096*m.e),.int (4096*m.f)])) t3 (.tup ([.int m.a,.int m.b,.int m.c,.int m.d]++[.int (4096*m.e),.int (4096*m.f)]))) t3 (mY m):=SqT.of ae;generalize upd (upd H1 t2 (.tup [.int (4096*m.e),.int (4096*m.f)])) t3 (.tup ([.int m.a,.int m.b,.int m.c,.int m.d]++[.int (4096*m.e),.int (4096*m.f)]))=H3 at k3 m3;refine⟨_,rfl,_,rfl,_,rfl,o,t3,wd,ls,m,W,lo,hi,rfl,⟨dx,l0,rs,k3.at ho,k3.at hl0,hls.keep k3 (fun r _=>by simp)⟩,hLs,m3,hs,⟨dw,k3.at hw⟩,hW,fun d kvs H4 k4 hch hok ki=>?_⟩;refine⟨zero_le _,fun l hl=>?_⟩;have k5:af [] H (upd H4 l (.lst [])):=(k3.trans k4).trans (af.new hl);have hl5:b0 (upd H4 l (.lst [])) l []:=⟨[],ae,.nil⟩;have hlH:H l=none:=(k3.trans k4).bP hl;have dl:d≠l:=ak hch hl;have MT:kF (upd H4 l (.lst [])) d kvs:=by
  unfold kF;rw[aq dl];exact hch
 generalize upd H4 l (.lst [])=H5 at k5 hl5 MT;refine⟨_,rfl,d,kvs.map fun p=>(p.1,V.int p.2),rfl,.inl (by rw[map_map];exact MT),fun ks q uz hpw hq=>⟨q,rfl,⟨_,SqL.of ae⟩,?_⟩⟩;rw[map_map]at uz;have uz:ks.Perm (kvs.map (·.1)):=uz;have ql:q≠l:=fun z=>by
  obtain⟨ts,z1,_⟩:=hl5;rw[z,z1]at hq;cases hq
 have k6:af [] H (upd H5 q (.lst (ks.map V.int))):=k5.trans (af.new hq);have hl6:b0 (upd H5 q (.lst (ks.map V.int))) l []:=hl5.keep (M:=[]) (af.new hq) (by simp);have Wj:kF (upd H5 q (.lst (ks.map V.int))) d kvs:=by
  unfold kF;rw[aq (ak MT hq)];exact MT
 have hq6:upd H5 q (.lst (ks.map V.int)) q=some (.lst (ks.map V.int)):=ae;generalize upd H5 q (.lst (ks.map V.int))=H6 at k6 hl6 Wj hq6;have hkl:ks.length<sizeLine:=by rw[uz.length_eq,length_map];exact xg hW hok
 have fin:=Sg35.Bm (m:=m) (ls:=ls) (ins:=kU odd) hW.1 hok.1 uz hpw (by cases odd<;>rfl) ki;refine mX (xs:=ks.map V.int) (fun i Y' H'=>∃sp tot bg o9,Y'=[some (.ref o),some (.ref p),some (.str (rlV odd)),some (.ref wd),some (.ref t3),some (.ref d),some (.ref l),some (.int tot),some (.int bg),o9]/\af [] H H'/\af [l] H6 H'/\b0 H' l sp/\sp.length<=i/\
  dN (kU odd) (cX kvs) 0 0 ks=sp++dN (kU odd) (cX kvs) tot bg (ks.drop i))
  ⟨[],0,0,none,rfl,k6,af.refl,hl6,le_refl _,rfl⟩ (fun i Y' H' _ ⟨sp,tot,bg,o9,e1,e2,e3,_⟩=>SqL.of (e3.kp _ _ hq6 (by simpa using ql))) (fun i x Y' H' hi ⟨sp,tot,bg,o9,e1,e2,e3,e4,e5,e6⟩=>?_) (fun Y' H' ⟨sp,tot,bg,o9,e1,e2,e3,e4,e5,e6⟩=>?_)
 case refine_2=>
  subst e1;rw[length_map,drop_length]at e6;have e6:_=sp:=e6.trans (append_nil sp);rw[e6]at fin;exact⟨_,rfl,k l sp H' e2 e4 fin⟩
 subst e1;rw[List.getElem?_map]at hi;obtain⟨dt,hdt,rfl⟩:=map_eq_some_iff.mp hi;have IZ:ks.drop i=dt::ks.drop (i+1):=by
  obtain⟨z1,z2⟩:=List.getElem?_eq_some_iff.mp hdt;rw[List.drop_eq_getElem_cons z1,z2]
 have rN:dt∈kvs.map (·.1):=uz.mem_iff.mp (mem_of_getElem? hdt);have hgv:=Ax (g:=fun z=>(Sum.inl z:Key)) wM rN;have Y0:i<ks.length:=(List.getElem?_eq_some_iff.mp hdt).1;rw[IZ]at e6;have e6:dN (kU odd) (cX kvs) 0 0 ks=sp++((if kU odd tot=true then [(bg,dt)]else [])++dN (kU odd) (cX kvs) (tot+cX kvs dt) dt (ks.drop (i+1))):=e6;refine⟨_,rfl,_,rfl,tot,odd,rfl,_,rfl,?_⟩;have nxt:∀H7 sp',af [] H H7->af [l] H6 H7->b0 H7 l sp'->sp'.length<=i+1->sp'=sp++(if kU odd tot=true then [(bg,dt)]else [])->∃sp US bg' o9,([some (V.ref o),some (.ref p),some (.str (rlV odd)),some (.ref wd),some (.ref t3),some (.ref d),some (.ref l),some (.int (tot+cX kvs dt)),some (.int dt),some (.int dt)]:L2.St)=[some (.ref o),some (.ref p),some (.str (rlV odd)),some (.ref wd),some (.ref t3),some (.ref d),some (.ref l),some (.int US),some (.int bg'),o9]/\af [] H H7/\af [l] H6 H7/\b0 H7 l sp/\sp.length<=i+1/\
   dN (kU odd) (cX kvs) 0 0 ks=sp++dN (kU odd) (cX kvs) US bg' (ks.drop (i+1)):=fun H7 sp' z1 z2 z3 z4 z5=>⟨sp',_,_,_,rfl,z1,z2,z3,z4,by rw[e6,z5,append_assoc]⟩
 have hd7:∀H7,af [l] H6 H7->fY H7 d (.int dt) (some (.int (cX kvs dt))):=fun H7 z=>.inl ⟨_,Sum.inl dt,.inl (z.kp _ _ Wj (by simpa using dl)),rfl,hgv.symm⟩
 by_cases hin:kU odd tot=true
 .rw[hin];obtain⟨ts,g1,g2⟩:=e4;refine a9 ⟨_,rfl,.inl ⟨rfl,_,SqL.of g1⟩,_,rfl,_,rfl,sl2,fun t7 ht7=>⟨l,_,_,rfl,rfl,(by rw[aq (ak g1 ht7)];exact g1),(by rw[length_map,Paired.length g2];lia),?_⟩⟩;have kk:af [l] H' (upd (upd H' t7 (.tup [.int bg,.int dt])) l (.lst (ts.map V.ref++[.ref t7]))):=(af.new ht7).trans (af.set (by simp) (by rw[aq (ak g1 ht7),g1];exact trivial));have sp7:=b0.push (s:=(bg,dt)) g1 g2 ht7;generalize upd (upd H' t7 (.tup [.int bg,.int dt])) l (.lst (ts.map V.ref++[.ref t7]))=H7 at kk sp7;refine⟨_,rfl,_,rfl,_,rfl,d,_,rfl,hd7 _ (e3.trans kk),_,_,rfl,rfl,_,rfl,?_⟩;exact nxt H7 _ (af.drop e2 kk hlH) (e3.trans kk) sp7 (by rw[length_append];show _+1<=_;lia) (by rw[if_pos hin])
 .have X9:kU odd tot=false:=by simpa using hin
  rw[X9];refine aT ⟨_,rfl,_,rfl,_,rfl,d,_,rfl,hd7 _ e3,_,_,rfl,rfl,_,rfl,?_⟩;exact nxt H' _ e2 e3 e4 (by lia) (by rw[if_neg hin,append_nil])
 end Pg
namespace Pg
open PySem PySem.Spec PyProof.Rows L2 TL
variable{P:Program}{w:World}{K:Frag}{mg:Str->Option Value}{bZ:Heap}{a:Adr}(T:TX P w K mg bZ a)
theorem iX{u v z:V}:(shF u v z).lookup ("figure":Str)=some u:=rfl
theorem qp{u v z:V}:(shF u v z).lookup ("matrix":Str)=some v:=rfl
theorem nU{u v z:V}:(shF u v z).lookup ("style":Str)=some z:=rfl
theorem Jo{b c:Lines}(h:dZ b c):(∀l∈c,∀p∈l,l9 p)->∀l∈b,∀p∈l,l9 p:=by
 induction h with
 |nil=>exact fun h=>h
 |keep l h ih=>
  intro k e he;rcases mem_cons.mp he with rfl|he
  .exact k _ mem_cons_self
  .exact ih (fun l hl=>k l (mem_cons_of_mem _ hl)) e he
 |out p hp h ih=>
  intro k e he;rcases mem_cons.mp he with rfl|he
  .intro q hq;rw[mem_singleton.mp hq];exact hp
  .exact ih k e he
theorem MJ(odd:Bool)(n:Int):kU odd n=true↔(if odd=true then n%2 != 0 else n != 0)=true:=by
 cases odd
 .simp[kU]
 .simp[kU];omega
theorem SG:T.Qb:=by
 refine T.BQ.okA Rj fun H Q E hr h=>?_
 obtain⟨x,dx,W,lo,hi,rfl,hx,k⟩:=h;refine⟨_,(aa (aX (pv 0) (pv 1))
   (aa (aX (pv 0) (ao aQ (pv 1) ag))
   (aa (aX (pv 0) (pv 2))
   (ah (aX (pv 0) (pv 3)))))),?_⟩
 dsimp only[bq];refine⟨_,rfl,_,rfl,x,a.cM,dx,_,rfl,hx,T.bc,T.du,lt0,_,rfl,_,_,rfl,rfl,_,rfl,x,a.cM,dx,_,rfl,ae,T.bc,T.aY,lt1,_,rfl,_,rfl,x,a.cM,dx,_,rfl,ae,T.bc,T.ef,lt2,_,rfl,_,rfl,x,a.cM,dx,_,rfl,ae,T.bc,T.bU,lt3,?_⟩;show Q _ (upd (upd (upd (upd H x _) x _) x _) x _);rw[cf,cf,cf];have e:bw "behind_row" (.int hi) (bw "first_row" (.int lo) (bw "row_length" (.int (W+1)) (bw "width" (.int W) [])))=wnF W lo hi:=rfl;rw[e];exact k _ (af.set (by simp) (by rw[hx];exact trivial)) ⟨dx,ae⟩
theorem S9(Lm:T.Qv)(Lu:T.QC):T.Qz:=by
 refine T.N5.fn.okA Ry fun H Q E hr h=>?_
 obtain⟨s,wd,F,sh,W,lo,hi,rfl,⟨dx,f,m,y,hsx,hF1,hF2,Fn,hm,hsm,⟨dst,hst⟩⟩,hko,hw,hW,k⟩:=h;refine⟨_,(aa (aR (cV (aL JC T.tV (ai (ax (pv 0)) (pa1 (RW (by rfl) T.rg))))) (ah (aD (pcD Lm hr T.N2 cp (ai (ax (pv 0)) (ai (ax (pv 0)) (pa1 (pv 1))))))) aI)
   (ah (aD (pcD Lu hr T.N8 cp (ai (ax (pv 0)) (ai (ax (pv 0)) (ai (ax (ax (pv 0))) (pa1 (pv 1))))))))),?_⟩
 dsimp only[bq];cases hk:sh.kind with
 |circle cx cy r=>
  rw[hk]at Fn hko;obtain⟨df,hf,_⟩:=Fn;refine⟨_,rfl,_,_,_,_,_,rfl,hsx,T.dC,T.dB,iX,f,_,_,_,_,_,rfl,hf,T.VP,_,rfl,a9 ?_⟩;refine⟨_,rfl,_,_,_,_,_,rfl,hsx,T.dC,T.dB,iX,_,rfl,_,_,_,_,_,rfl,hsx,T.dC,T.gc,qp,_,rfl,f,m,wd,cx,cy,r,sh.mat,W,lo,hi,rfl,⟨df,hf⟩,hko,hm,hsm,hw,hW,fun l sp H' kp hsp hok=>k l sp H' kp hsp (kX.iff (fun x y=>?_) hok)⟩;unfold wZ;rw[hk]
 |lines ls=>
  rw[hk]at Fn hko;obtain⟨df,l,hf,_,rs,ls',hl,_,_,hls,hdr,tO⟩:=Fn;refine⟨_,rfl,_,_,_,_,_,rfl,hsx,T.dC,T.dB,iX,f,_,_,_,_,_,rfl,hf,T.VQ,_,rfl,aT ?_⟩;refine⟨_,rfl,_,_,_,_,_,rfl,hsx,T.dC,T.dB,iX,_,rfl,_,_,_,_,_,rfl,hsx,T.dC,T.gc,qp,_,rfl,_,_,_,_,_,rfl,hsx,T.dC,T.eZ,nU,_,_,_,_,_,rfl,hst,T.gN,T.ie,xH,_,rfl,f,m,wd,ls',sh.mat,sh.odd,W,lo,hi,rfl,⟨df,l,rs,hf,hl,hls⟩,⟨Jo hdr hko,tO⟩,hm,hsm,hw,hW,fun l sp H' kp hsp hok=>k l sp H' kp hsp (kX.iff (fun x y=>?_) hok)⟩;unfold wZ;rw[hk,MJ,hdr.winding]
inductive AO(a:Adr)(K:Frag)(ans:Picture->List Int)(vs:List V)(H:Hp)(Q:VK)(E0:XK):Prop where
 |mk (p l:Addr)(ss:List Addr)(F:Addr->Prop)(pc:Picture)(_:vs=[.ref p])(_:eR a K F H p l ss pc.width pc.height pc.shapes)(_:Aj pc)(_:∀t H',LsI H' t (ans pc)->Q (.ref t) H'):AO a K ans vs H Q E0
def kC(ans:Picture->List Int)(b:B):List Int:=if 65536<b.length then [-1]else match pic b with
 |none=>[-2]
 |some pc=>ans pc
inductive gT(a:Adr)(K:Frag)(fA:Addr)(ans:Picture->List Int)(vs:List V)(H:Hp)(Q:VK)(E0:XK):Prop where
 |mk (t:Addr)(b:B)(_:vs=[.ref t,.ref fA])(_:SqL K H t (b.map fun(c:Nat)=>V.int (c:Int)))(_:Byt b)(_:b.length<=65600)(_:∀u H',LsI H' u (kC ans b)->Q (.ref u) H'):gT a K fA ans vs H Q E0
theorem Nc:∀c:Nat,c<256->inV (.int (c:Int)) [.int 32,.int 9,.int 10,.int 13]=blank c:=by decide +kernel
theorem Be:∀c<256,33<=c->c<=126->(tl ("!\"#$?&'()*+,-./0123456789:;<=>?@ABCDEFGHIJKLMNOPQRSTUVWXYZ[\\]^_`abcdefghijklmnopqrstuvwxyz{|}~":Str))[c-33]?=some (Sg35.tr c):=by decide +kernel
theorem R5:T.PF:=by
 refine T.Nu.fn.okA Q4 fun H Q E hr h=>?_
 obtain⟨c,rfl,hc,k⟩:=h;refine⟨_,(aa (aR (aF iB (pv 0) (bH (ai ag (ai ag (ai ag (pa1 ag)))))) (ah (aD (aB T.eD))) aI)
   (aa (aR (qG qR qR ag (pv 0) ag) (ah (aD (az BD (aB T.Ce) (ao cg (pv 0) ag)))) aI)
   (ah (aD (aB T.sd))))),?_⟩
 dsimp only[bq];refine⟨_,rfl,sl4,fun t ht=>⟨t,_,rfl,.inr (SqT.of ae),rfl,rfl,blank c,congrArg V.bl (Nc c hc),?_⟩⟩;cases hb:blank c with
 |true=>
  refine a9 ?_;have e:sg [Sg35.tr c]=(" ":Str):=by rw[Sg35.pU.mpr hb];decide +kernel
  exact(congrArg (fun z=>Q (V.str z) _) e).mp (k _ (af.new ht))
 |false=>
  have hnb:¬blank c=true:=by rw[hb];exact Bool.false_ne_true
  refine aT ⟨_,rfl,_,_,rfl,rfl,decide (33<=c),congrArg V.bl (by rw[Bool.eq_iff_iff,decide_eq_true_eq,decide_eq_true_eq];omega),?_⟩;by_cases h33:33<=c
  .refine dT h33 ⟨_,_,rfl,rfl,decide (c<=126),congrArg V.bl (by rw[Bool.eq_iff_iff,decide_eq_true_eq,decide_eq_true_eq];omega),?_⟩;by_cases MW:c<=126
   .refine dT MW ⟨_,rfl,_,_,rfl,rfl,_,_,Sg35.tr c,rfl,rfl,?_,?_,?_⟩
    .have:(("!\"#$?&'()*+,-./0123456789:;<=>?@ABCDEFGHIJKLMNOPQRSTUVWXYZ[\\]^_`abcdefghijklmnopqrstuvwxyz{|}~":Str)).length=94:=by decide +kernel
     rw[this];decide
    .rw[show((c:Int)-33)=((c-33:Nat):Int) by omega];exact dm (Be c hc h33 MW)
    .exact k _ (af.new ht)
   .refine dF MW ?_;have e:sg [Sg35.tr c]=("\n":Str):=by
     unfold Sg35.tr;rw[if_neg hnb,if_neg (fun z=>MW z.2)]
     decide +kernel
    exact(congrArg (fun z=>Q (V.str z) _) e).mp (k _ (af.new ht))
  .refine dF h33 ⟨_,rfl,aT ?_⟩;have e:sg [Sg35.tr c]=("\n":Str):=by
    unfold Sg35.tr;rw[if_neg hnb,if_neg (fun z=>h33 z.1)]
    decide +kernel
   exact(congrArg (fun z=>Q (V.str z) _) e).mp (k _ (af.new ht))
theorem rF:∀l:List Nat,yF [] (l.map fun c=>[c])=l
 |[]=>rfl
 |[_]=>rfl
 |x::y::r=>by
  show [x]++([]++yF [] ((y::r).map fun c=>[c]))=x::y::r;rw[rF (y::r)];rfl
theorem join_ones(l:List Nat):Txt.join "" (l.map fun c=>sg [c])=sg l:=by
 rw[join_eq]
 apply ox
 rw[CG,cw,show tl ("":Str)=[] by decide +kernel,map_map];have:(tl ∘ fun c=>sg [c])=fun c=>[c]:=by funext c;exact cw
 rw[this];exact rF l
theorem xB:∀l:List Nat,((l.map fun c=>sg [c]).map (·.length)).sum=l.length
 |[]=>rfl
 |x::r=>by
  rw[map_cons,map_cons,sum_cons,xB r,bT];simp only[length_cons,length_nil];omega
theorem Sd(Ko:T.PF):T.PL:=by
 refine T.Nv.fn.bz AV fun H Q E hr h=>?_
 obtain⟨p,b,rfl,hs,hlen,hby,k⟩:=h;refine⟨_,(ah (aD (iA PySem.F.plainAttrs_str PySem.F.slot_str_join PySem.F.type_str_join Ms aN (pa1 (qN rfl AV.nd (kM (pv 0)) (fW (own:=[("byte",1)]) (by with_unfolding_all rfl)) (fun s H C cl fp=>(bG 1 AV.nd)) (fun s H C cl fp=>gV) (fun s H C cl fp=>(pcD Ko hr T.Nu cp (pa1 (pv 1))))))))),?_⟩;dsimp only[bq];refine⟨rfl,_,rfl,p,rfl,⟨_,hs⟩,fun D hD=>?_⟩;refine⟨fun i m H'=>m=b.length-i/\i<=b.length/\af [] H H'/\H' D=some (.lst ((b.take i).map fun c=>V.str (sg [Sg35.tr c]))),⟨_,rfl,zero_le _,af.new hD,ae⟩,?_⟩;rintro i m H1 ⟨rfl,hi,kp1,ki⟩;have hs1:=kp1.sqL hs;by_cases hlt:i<b.length
 .obtain⟨c,hc⟩:∃c,b[i]?=some c:=⟨_,List.getElem?_eq_getElem hlt⟩;have hcx:(b.map fun(c:Nat)=>V.int (c:Int))[i]?=some (V.int (c:Int)):=by rw[List.getElem?_map,hc];rfl
  refine .inr ⟨⟨_,_,hs1,hcx⟩,fun H'=>af [] H H'/\H' D=some (.lst ((b.take (i+1)).map fun c=>V.str (sg [Sg35.tr c]))),fun H' hq=>⟨b.length-(i+1),by omega,rfl,hlt,hq.1,hq.2⟩,?_⟩;rintro y H2 ⟨rfl,hy⟩;have:=hy _ hs1;rw[hcx]at this;cases this;refine⟨rfl,_,rfl,c,rfl,hby c (mem_of_getElem? hc),fun H3 kp3=>⟨_,kp3.at ki,?_,?_,?_⟩⟩
  .rw[length_map,length_take,sizeLine_eq];omega
  .exact af.drop (kp1.trans kp3) (af.set (by simp) (by rw[kp3.at ki];exact trivial)) hD
  .rw[ae,take_succ,hc,map_append];rfl
 .have:i=b.length:=by omega
  subst this;rw[take_length]at ki;refine .inl ⟨⟨_,hs1,by rw[length_map];exact le_refl _⟩,"",D,(b.map Sg35.tr).map (fun c=>sg [c]),rfl,rfl,.inl (SqL.of ?_),?_,?_⟩
  .rw[ki,map_map,map_map];rfl
  .rw[xB,length_map,length_map,show("":Str).length=0 by decide +kernel,mul_zero];omega
  .rw[join_ones];exact k H1 kp1
theorem R8{fA:Addr}{dA:FuncData}{ans:Picture->List Int}(sU:eF P w K mg bZ CX0 8 fA dA ["picture"] (AO a K ans))(ou:PySem.W.FnAt fA bZ)(ow:Binds K dA ["picture"] [])(Lk:T.Qt)(Ks:T.PL):eF P w K mg bZ (CXW P w a.cQ) 13 (adF K "answered") (adD K "answered") ["text","answer"] (gT a K fA ans):=by
 refine T.CH.fn.bz GC fun H Q E hr h=>?_
 obtain⟨t,b,rfl,hs,hby,hlen,k⟩:=h;refine⟨_,(aa (aR (aF jX (aL aP T.cC (pa1 (pv 0))) (aB T.tT)) (ah (aD (cW (pa1 (aB T.iM))))) aI)
   (aa (RO T.aJ rfl rfl (fun pn E E1 hE=>(ah (aw 2 GC.nd (pcD Lk hr T.N0 hE (pa1 (pcD Ks hr T.Nv hE (pa1 (pv 0)))))))) (fun e=>(ah (aD (cW (pa1 (aB T.wV)))))) (by rfl))
   (ah (aD (HP 1 sU (hr.mono (by decide)) ou ow cp (pa1 (pv 2))))))),?_⟩
 dsimp only[bq];refine⟨_,rfl,t,_,rfl,.inl hs,_,_,rfl,rfl,decide (65536<b.length),congrArg V.bl (by rw[length_map,Bool.eq_iff_iff,decide_eq_true_eq,decide_eq_true_eq];omega),?_⟩;unfold kC at k;by_cases MU:65536<b.length
 .rw[decide_eq_true MU];rw[if_pos MU]at k;exact a9 ⟨sl1,fun u hu=>k u _ ae⟩
 rw[decide_eq_false MU];rw[if_neg MU]at k;refine aT ⟨_,rfl,t,b,rfl,hs,hlen,hby,fun H1 kp1=>⟨_,b,rfl,⟨rfl,hlen,hby⟩,fun hn=>?_,fun pc p l ss F H2 hpc kp2 jj=>?_⟩⟩
 .intro H' Y' hY';rw[hn]at k;exact⟨sl1,fun u hu=>k u _ ae⟩
 .rw[hpc]at k;exact⟨rfl,_,rfl,p,l,ss,F,pc,rfl,jj,Sg35.RR hpc,fun u H3 hu=>k u H3 hu⟩
 end Pg
namespace Pg
open PySem PySem.Spec PyProof.Rows L2 TL
variable{P:Program}{w:World}{K:Frag}{mg:Str->Option Value}{bZ:Heap}{a:Adr}(T:TX P w K mg bZ a)
theorem l5{u v z:Addr}:(cvF u v z).lookup ("window":Str)=some (.ref u):=rfl
theorem oZ{u v z:Addr}:(cvF u v z).lookup ("colours":Str)=some (.ref v):=rfl
theorem m7{u v z:Addr}:(cvF u v z).lookup ("leads_to":Str)=some (.ref z):=rfl
theorem C5{n k:Nat}{f:Nat->Int}(h:k<n):atI ((List.range n).map fun k=>V.int (f k)) (k:Int)=some (.int (f k)):=dm (by rw[List.getElem?_map,List.getElem?_range h];rfl)
theorem Hh{n k:Nat}{f:Nat->Int}(h:k<n):ixN ((List.range n).map fun k=>V.int (f k)).length (k:Int)=some k:=by
 unfold ixN;rw[length_map,length_range,if_pos (by omega),if_pos (by omega),toNat_natCast]
theorem Bb{n k:Nat}{f:Nat->Int}{v:Int}:((List.range n).map fun k=>V.int (f k)).set k (.int v)=(List.range n).map fun i=>V.int (Sg35.put f k v i):=by
 refine List.ext_getElem? fun i=>?_
 rw[List.getElem?_set];by_cases h:k=i
 .subst h;rw[if_pos rfl];by_cases hk:k<n
  .rw[if_pos (by rw[length_map,length_range];exact hk),List.getElem?_map,List.getElem?_range hk,map_some,lR]
  .rw[if_neg (by rw[length_map,length_range];exact hk),List.getElem?_eq_none (by rw[length_map,length_range];omega)]
 .rw[if_neg h,List.getElem?_map,List.getElem?_map];by_cases hi:i<n
  .rw[List.getElem?_range hi,map_some,map_some,lQ fun z=>h z.symm]
  .rw[List.getElem?_eq_none (by rw[length_range];omega)];rfl
theorem x8{L:Nat->Nat}{e v:Nat}:Sg35.put (fun k=>(L k:Int)) e (v:Int)=fun k=>((Sg35.put L e v k:Nat):Int):=by
 funext k
 unfold Sg35.put;split<;>rfl
theorem L6{n:Nat}{v:V}:(List.replicate n [v]).flatten=(List.range n).map fun _=>v:=by
 rw[List.map_const',length_range];induction n with
 |zero=>rfl
 |succ n ih=>rw[replicate_succ,replicate_succ,flatten_cons,ih];rfl
theorem SF:T.Qa:=by
 refine T.BP.okA GD fun H Q E hr h=>?_
 obtain⟨x,dx,wd,W,h,rfl,hx,⟨dw,hw⟩,hW,hh,hne,k⟩:=h;refine⟨_,(aa (aX (pv 0) (pv 1))
   (aa (aw 2 GD.nd (ao aH (ax (pv 1)) (ax (pv 1))))
   (aa (aX (pv 0) (ao RY (cW (pa1 (aB T.Js))) (pv 2)))
   (ah (aX (pv 0) (Mb (by rfl) T.Nd (by rfl) T.fq (pa1 (pv 2)))))))),?_⟩
 dsimp only[bq];have hn:h*(W+1)<=1024*1025:=mul_le_mul hh (by omega);have en:(h:Int)*((W:Int)+1)=((h*(W+1):Nat):Int):=by push_cast;rfl
 refine⟨_,rfl,_,rfl,x,a.cn,dx,_,rfl,hx,T.bY,T.d5,lt0,?_⟩;have hw1:∀o,(upd H x o) wd=some (.ins a.cM dw (wnF W 0 h)):=fun o=>(aq (Ne.symm hne)).trans hw
 refine⟨_,rfl,_,_,_,_,_,rfl,hw1 _,T.bc,T.bU,eU,_,rfl,_,_,_,_,_,rfl,hw1 _,T.bc,T.aY,cu,_,_,rfl,rfl,.inl ⟨by omega,by omega⟩,?_⟩;dsimp only;rw[en];refine⟨sl1,fun p hp=>⟨_,rfl,p,_,_,rfl,rfl,ae,by omega,by omega,by rw[sizeLine_eq];simp;omega,fun c hc=>?_⟩⟩;have hpx:=ak (show(upd H x _) x=_ from ae) hp;have hcx:=ak ((aq hpx).trans (show(upd H x _) x=_ from ae)) hc;have hcp:=ak (show(upd (upd H x _) p _) p=_ from ae) hc;refine⟨_,rfl,x,a.cn,dx,_,rfl,(aq hcx).trans ((aq hpx).trans ae),T.bY,T.fh,lt1,?_⟩;refine⟨_,rfl,h*(W+1),rfl,by omega,fun l hl=>?_⟩;have hlx:=ak (show(upd _ x _) x=_ from ae) hl;refine⟨_,rfl,x,a.cn,dx,_,rfl,(aq hlx).trans ae,T.bY,T.eI,lt2,?_⟩;have hl2:=hl;rw[aq (Ne.symm hlx)]at hl2;have hlc:l≠c:=fun z=>by
  rw[z,ae]at hl2;cases hl2
 rw[aq hlc]at hl2;have hlp:l≠p:=fun z=>by
  rw[z,ae]at hl2;cases hl2
 rw[aq hlp,aq (Ne.symm hlx)]at hl2;have hc2:=hc;rw[aq (Ne.symm hcp),aq (Ne.symm hcx)]at hc2;have hp2:=hp;rw[aq (Ne.symm hpx)]at hp2;have e:bw "leads_to" (.ref l) (bw "colours" (.ref c) (bw "window" (.ref wd) []))=cvF wd c l:=rfl;refine k c l _ ?_ hc2 hl2 (Ne.symm hlc) ⟨dx,by rw[ae,e]⟩ ?_ ?_
 .refine af.trans (H1:=upd H x (.ins a.cn dx (bw "window" (.ref wd) []))) (af.set (by simp) (by rw[hx];exact trivial)) ?_;refine af.trans (af.new hp) (af.trans (af.new hc) (af.trans (af.set (by simp) ?_) (af.trans (af.new hl) (af.set (by simp) ?_))))
  .rw[aq hcx,aq hpx,ae];exact trivial
  .rw[aq hlx,ae];exact trivial
 .show _=_;rw[aq (Ne.symm hcx),aq (Ne.symm hlc),aq (Ne.symm hcx),ae,L6,toNat_natCast]
 .show _=_;rw[aq (Ne.symm hlx),ae]
theorem Tj:T.QG:=by
 refine T.B9.okA A9 fun H Q E hr h=>?_
 obtain⟨x,wd,c,l,n,d,L,P',rfl,⟨dx,hx⟩,hl,hL,hd,k⟩:=h;refine⟨_,(aa (aw 2 A9.nd (ax (pv 0)))
   (aa (eu (aF jv (az bh (pv 2) (pv 1)) (pv 1)) (aa (Bd (az bh (pv 2) (az bh (pv 2) (pv 1))) (Bh (pv 2) (pv 1) set_list))
   (ah (aw 1 A9.nd (az bh (pv 2) (pv 1))))))
   (ah (aD (pv 1))))),?_⟩
 dsimp only[bq];refine⟨_,rfl,_,_,_,_,_,rfl,hx,T.bY,T.eI,m7,?_⟩;refine⟨fun m Y' H'=>∃(e:Nat)(L':Nat->Nat),Y'=[some (.ref x),some (.int e),some (.ref l)]/\af [l] H H'/\RwN H' l n L'/\(∀i,i<d->L' i=L i)/\Sg35.Ld n L' d P'/\d<=e/\e<n/\(∀k,d<=k->k<e->P' k=true)/\m=n-e,⟨_,d,L,rfl,af.refl,hl,fun _ _=>rfl,hL,le_refl _,hd,fun k k1 k2=>by omega,rfl⟩,?_⟩;rintro m Y' H' ⟨e,L',rfl,kH,hl',same,hL',hde,hen,hP,rfl⟩;refine⟨_,rfl,_,rfl,_,_,_,_,rfl,rfl,SqL.of hl',C5 hen,_,rfl,rfl,!decide (L' e=e),congrArg V.bl (congrArg Bool.not ?_),?_⟩
 .rw[Bool.eq_iff_iff,decide_eq_true_eq,decide_eq_true_eq];exact⟨fun z=>by have:=V.int.inj z;omega,fun z=>by rw[z]⟩
 by_cases q:L' e=e
 .rw[decide_eq_true q];exact aT ⟨_,rfl,k e L' H' kH hl' same hL' hde hen ((hL' e hde hen).2.2.1 q) hP⟩
 .rw[decide_eq_false q];obtain⟨j1,j2,j3⟩:=hL'.Xs hde hen q;have hLe:=(hL' e hde hen).2.1;refine a9 ⟨fun Y' H'=>∃m',m'<n-e/\∃(e:Nat)(L':Nat->Nat),Y'=[some (.ref x),some (.int e),some (.ref l)]/\af [l] H H'/\RwN H' l n L'/\(∀i,i<d->L' i=L i)/\Sg35.Ld n L' d P'/\d<=e/\e<n/\(∀k,d<=k->k<e->P' k=true)/\m'=n-e,fun _ _ z=>z,?_⟩;refine⟨_,rfl,_,rfl,_,rfl,_,_,_,_,rfl,rfl,SqL.of hl',C5 hen,_,_,_,_,rfl,rfl,SqL.of hl',C5 hLe,_,rfl,_,rfl,_,_,_,e,rfl,rfl,hl',Hh hen,?_⟩;rw[Bb,x8];refine⟨_,rfl,_,rfl,_,_,_,_,rfl,rfl,SqL.of ae,C5 hen,?_⟩;rw[lR];refine⟨_,by omega,L' (L' e),Sg35.put L' e (L' (L' e)),rfl,kH.trans (af.set (by simp) (by rw[hl'];exact trivial)),ae,fun i hi=>?_,hL'.Pu hde hen q,by omega,j2,fun k k1 k2=>?_,rfl⟩
  .rw[lQ (by omega)];exact same i hi
  .by_cases z:k<e
   .exact hP k k1 z
   .exact j3 k (by omega) k2
theorem Ti(DU:T.QG):T.QF:=by
 refine T.B7.okA A7 fun H Q E hr h=>?_
 obtain⟨x,wd,c,l,t,n,C,L,P',⟨z1,z2⟩,co,rfl,⟨dx,hx⟩,ht,hc,hl,hcl,hL,⟨hz0,hz1,hzn⟩,k⟩:=h;obtain⟨s0,rfl⟩:∃s0:Nat,z1=s0:=⟨z1.toNat,by have:0<=z1:=hz0;omega⟩;obtain⟨s1,rfl⟩:∃s1:Nat,z2=s1:=⟨z2.toNat,by have:(s0:Int)<z2:=hz1;omega⟩;dsimp only[toNat_natCast]at hzn k;have hs:s0<s1:=by have:(s0:Int)<s1:=hz1;omega
 refine⟨_,(aa (aw 3 A7.nd (aM (pv 0) T.bY T.oh DU hr T.DL cp (pa1 (az aA (pv 1) ag))))
   (ah (eu (aF uh (pv 3) (az aA (pv 1) ag)) (aa (Bd (pv 2) (Bh (ax (pv 0)) (pv 3) set_list))
   (aa (Bd (az aA (pv 1) ag) (Bh (ax (pv 0)) (pv 3) set_list))
   (ah (aw 3 A7.nd (aM (pv 0) T.bY T.oh DU hr T.DL cp (pa1 (ao aQ (pv 3) ag)))))))))),?_⟩
 dsimp only[bq];have lk:(cvF wd c l).lookup ("unpainted_from":Str)=none:=rfl;have hxc:x≠c:=iC hx hc fun z=>nomatch z
 have hxl:x≠l:=iC hx hl fun z=>nomatch z
 refine⟨_,rfl,x,dx,_,rfl,hx,lk,_,rfl,_,_,_,_,rfl,rfl,SqT.of ht,rfl,x,wd,c,l,n,s0,L,P',rfl,⟨dx,hx⟩,hl,hL.up (zero_le _),by omega,fun r L1 H1 k1 hl1 Va hL1 hr1 hrn hPr hP1=>?_⟩;refine⟨fun m Y' H'=>∃(e:Nat)(L':Nat->Nat),Y'=[some (.ref x),some (.ref t),some (.int co),some (.int e)]/\af [c,l] H H'/\RwZ H' c n (Sg35.col C P' s0 s1 e co)/\RwN H' l n L'/\pI n L' P' s0 s1 e/\s0<=e/\e<n/\P' e=false/\m=n-e,
  ⟨_,r,L1,rfl,k1.mono (by simp),?_,hl1,.start hL hL1 Va hr1 hP1,hr1,hrn,hPr,rfl⟩,?_⟩
 .rw[<-Sg35.FL hP1];exact k1.one hc hcl
 rintro m Y' H' ⟨e,L',rfl,kH,hc',hl',hA,hse,hen,hPe,rfl⟩;have hx':=kH.kp _ _ hx (by simp[hxc,hxl]);have ht':SnT H' t (s0,s1):=kH.tp _ _ ht;refine⟨_,rfl,_,rfl,_,_,_,_,rfl,rfl,SqT.of ht',rfl,_,_,rfl,rfl,decide ((e:Int)<s1),rfl,?_⟩;by_cases q:(e:Int)<s1
 .have q':e<s1:=by omega
  refine dT q ⟨fun Y' H'=>∃m',m'<n-e/\∃(e:Nat)(L':Nat->Nat),Y'=[some (.ref x),some (.ref t),some (.int co),some (.int e)]/\af [c,l] H H'/\RwZ H' c n (Sg35.col C P' s0 s1 e co)/\RwN H' l n L'/\pI n L' P' s0 s1 e/\s0<=e/\e<n/\P' e=false/\m'=n-e,fun _ _ z=>z,?_⟩;refine⟨_,rfl,_,rfl,_,_,_,_,_,rfl,hx',T.bY,T.fh,oZ,_,rfl,_,_,_,e,rfl,rfl,hc',Hh hen,?_⟩;rw[Bb];have k2:af [c,l] H' (upd H' c (.lst ((List.range n).map fun i=>V.int (Sg35.put (Sg35.col C P' s0 s1 e co) e co i)))):=af.set (by simp) (by rw[hc'];exact trivial);refine⟨_,rfl,_,_,_,_,rfl,rfl,SqT.of (k2.tp _ _ ht'),rfl,_,rfl,_,_,_,_,_,rfl,(aq hxc).trans hx',T.bY,T.eI,m7,_,rfl,_,_,_,e,rfl,rfl,(aq (Ne.symm hcl)).trans hl',Hh hen,?_⟩;rw[Bb,x8];refine⟨_,rfl,x,dx,_,rfl,(aq hxl).trans ((aq hxc).trans hx'),lk,_,rfl,_,_,rfl,rfl,x,wd,c,l,n,e+1,Sg35.put L' e s1,P',rfl,⟨dx,(aq hxl).trans ((aq hxc).trans hx')⟩,ae,hA.pre s1,by omega,fun r L2 H2 k3 hl2 U9 hL2 hr2 XQ Yx hP2=>?_⟩;refine⟨_,by omega,r,L2,rfl,kH.trans (k2.trans (af.trans (af.set (by simp) (by rw[aq (Ne.symm hcl),hl'];exact trivial)) (k3.mono (by simp)))),?_,hl2,hA.step hse q' hzn U9 hL2 hr2 hP2,by omega,XQ,Yx,rfl⟩;rw[<-Sg35.Jy hse q' hPe hr2 hP2];exact k3.one ((aq hcl).trans ae) hcl
 .exact dF q (k L' e H' kH (by omega) hc' hl' (hA.done (by omega)))
theorem UE{n b W:Nat}{f:Nat->V}(h:b+W<=n):m8 ((List.range n).map f) (some (b:Int)) (some ((b:Int)+(W:Int)))=(List.range W).map fun x=>f (b+x):=by
 unfold m8;rw[show(b:Int)+(W:Int)=((b+W:Nat):Int) by push_cast;rfl,HT.kJ,HT.kJ,length_map,length_range,show min b n=b by omega,show min (b+W) n=b+W by omega];refine List.ext_getElem? fun i=>?_
 rw[List.getElem?_take,List.getElem?_drop,List.getElem?_map,List.getElem?_map];by_cases hi:i<W
 .rw[if_pos (by omega),List.getElem?_range (by omega),List.getElem?_range hi];rfl
 .rw[if_neg (by omega),List.getElem?_eq_none (by rw[length_range];omega)];rfl
theorem Fy{W h:Nat}{C:Nat->Int}:gg W (h+1) C=gg W h C++(List.range W).map fun x=>C (h*(W+1)+x):=by
 unfold gg;rw[range_succ,List.flatMap_append,List.flatMap_singleton]
theorem SE:T.P9:=by
 refine T.BO.okA vG fun H Q E hr h=>?_
 obtain⟨x,wd,c,l,W,h,C,rfl,⟨dx,hx⟩,⟨dw,hw⟩,hW,hh,hc,k⟩:=h;refine⟨_,(aa (aw 1 vG.nd (cW lS))
   (aa (fH (ue (by rfl) T.fq (pa1 (ax (ax (pv 0))))) (bG 2 vG.nd) (aa (aw 3 vG.nd (ao aH (pv 2) (ax (ax (pv 0)))))
   (ah (aK (iA PySem.F.plainAttrs_list PySem.F.slot_list_extend PySem.F.type_list_extend EK (pv 1) (pa1 (gH CZ (ax (pv 0)) (eY (pv 3)) (eY (ao aQ (pv 3) (ax (ax (pv 0))))))))))))
   (ah (aD (pv 1))))),?_⟩
 dsimp only[bq];refine⟨zero_le _,fun D hD=>?_⟩;have k0:af [] H (upd H D (.lst [])):=af.new hD;refine⟨_,rfl,_,_,_,_,_,rfl,k0.at hx,T.bY,T.d5,l5,_,_,_,_,_,rfl,k0.at hw,T.bc,T.bU,eU,_,rfl,by omega,by omega,?_⟩;rw[toNat_natCast];refine iJ (fun i Y' H'=>∃u v,Y'=[some (.ref x),some (.ref D),u,v]/\af [] H H'/\LsI H' D (gg W i C)) ⟨_,_,rfl,k0,ae⟩ (fun i Y' H' hi ⟨u,v,e1,kH,hd⟩=>?_) (fun Y' H' ⟨u,v,e1,kH,hd⟩=>?_)
 .subst e1;rw[zero_add];have hx':=kH.at hx;have hw':=kH.at hw;refine⟨_,rfl,_,rfl,_,_,_,_,_,rfl,hx',T.bY,T.d5,l5,_,_,_,_,_,rfl,hw',T.bc,T.aY,cu,_,_,rfl,rfl,.inl ⟨by omega,by omega⟩,?_⟩;dsimp only;rw[show(i:Int)*((W:Int)+1)=((i*(W+1):Nat):Int) by push_cast;rfl];have hle:(i+1)*(W+1)<=h*(W+1):=Nat.mul_le_mul_right _ hi;rw[Nat.add_mul,Nat.one_mul]at hle;refine⟨_,rfl,.inl ⟨rfl,_,SqL.of hd⟩,_,rfl,_,_,_,_,_,rfl,hx',T.bY,T.fh,oZ,_,rfl,_,rfl,_,rfl,_,rfl,_,_,_,_,_,rfl,hx',T.bY,T.d5,l5,_,_,_,_,_,rfl,hw',T.bc,T.du,kI,_,_,rfl,rfl,_,rfl,c,_,rfl,SqL.of (kH.at hc),fun q hq=>?_⟩;rw[UE (by omega)];have hqD:=ak hd hq;have hl1:=r6 W i C;have hl2:i*W<=1024*1024:=mul_le_mul (by omega) hW;refine⟨D,q,_,_,rfl,rfl,(aq hqD).trans hd,ae,?_,_,_,rfl,kH.grow (M':=[D]) (af.trans (af.new hq) (af.set (by simp) (by rw[aq hqD,hd];exact trivial))) (fun y hy=>.inr (by rw[mem_singleton.mp hy];exact hD)),?_⟩
  .rw[length_map,length_map,length_range,hl1,sizeLine_eq];omega
  .show _=_;rw[ae,Fy,map_append,map_map];rfl
 .subst e1;exact⟨_,rfl,k D H' kH hd⟩
theorem Dg{I L:Type}{R:I->L->Prop}{ss:List I}{ts:List L}(h:Paired R ss ts):∀{j:Nat}{x:I},ss[j]?=some x->∃y,ts[j]?=some y/\R x y:=by
 induction h with
 |nil=>intro j y h;simp at h
 |cons x y ih=>
  intro j z h;cases j with
  |zero=>cases h;exact⟨_,rfl,x⟩
  |succ j=>exact ih h
theorem RwZ.congr{H:Hp}{p:Addr}{n:Nat}{f g:Nat->Int}(h:RwZ H p n f)(e:∀k,k<n->f k=g k):RwZ H p n g:=by
 unfold RwZ;rw[h];exact congrArg (fun z=>some (HO.lst z)) (map_congr_left fun k hk=>by rw[e k (mem_range.mp hk)])
theorem M3{f:Option Nat}:(!decide (V.int (flV f)=V.int (-1)))=f.isSome:=by
 cases f with
 |none=>rfl
 |some n=>
  have:¬V.int (n:Int)=V.int (-1):=fun z=>by
   have:=V.int.inj z;omega
  show(!decide (V.int (n:Int)=V.int (-1)))=true;rw[decide_eq_false this];rfl
theorem S4(KR:T.Qb)(KQ:T.Qa)(Lq:T.Qz)(Lx:T.QF)(KP:T.P9):T.Qu:=by
 refine T.N1.fn.okA qx fun H Q E hr h=>?_
 obtain⟨p,l0,ss,F,pc,rfl,jj,hOk,k⟩:=h;refine⟨_,(aa (aw 1 qx.nd (bW T.EL KR hr T.Bv T.JS cp (ai (ax (pv 0)) (ai ag (pa1 (ax (pv 0)))))))
   (aa (aw 2 qx.nd (bW T.EN KQ hr T.Bw T.JR cp (pa1 (pv 1))))
   (aa (fH (yd (by rfl) T.Ab (pa1 (ax (pv 0)))) (bG 3 qx.nd) (ah (aR (aF jv (ax (ax (pv 3))) (aB T.sf)) (ah (fH (kM (pcD Lq hr T.N5 cp (ai (pv 3) (pa1 (pv 1))))) (bG 4 qx.nd) (ah (aK (aM (pv 2) T.bY T.rm Lx hr T.JY cp (ai (pv 4) (pa1 (ax (ax (pv 3)))))))))) aI)))
   (ah (aD (eA (pv 2) T.bY T.rh KP hr T.JQ cp)))))),?_⟩
 dsimp only[bq];obtain⟨dx,hp⟩:=jj.ob;have hsl:ss.length=pc.shapes.length:=Paired.length jj.sh;obtain⟨⟨hw0,hw1⟩,hh0,hh1⟩:=And.intro hOk.w hOk.h;obtain⟨W,hW⟩:∃W,W=pc.width:=⟨_,rfl⟩;obtain⟨h,hH⟩:∃h,h=pc.height:=⟨_,rfl⟩;rw[<-hW]at hp hw0 hw1 k;rw[<-hH]at hp hh0 hh1 k;refine⟨_,rfl,_,_,_,_,_,rfl,hp,T.dj,T.fJ,ug,_,rfl,_,_,_,_,_,rfl,hp,T.dj,T.fc,qP,fun wd dw hx hdw hne=>⟨wd,dw,_,_,_,rfl,ae,fun H2 k2 hw=>⟨rfl,?_⟩⟩⟩;have kH2:af [] H H2:=af.made hx hdw k2;obtain⟨dw',hw⟩:=hw;refine⟨_,rfl,fun cv dc hcx hdc Fi=>?_⟩;have TR:af [] H2 (upd (upd H2 dc (.own cv)) cv (.ins a.cn dc [])):=af.made hcx hdc af.refl;refine⟨cv,dc,wd,W,h,rfl,ae,⟨dw',TR.at hw⟩,by omega,by omega,Ne.symm (ak hw hcx),fun c l H3 k3 hc hl hcl ⟨dv,hcv⟩ hrc hrl=>⟨rfl,?_⟩⟩;have hc0:H c=none:=(kH2.trans TR).bP hc;have hl0:H l=none:=(kH2.trans TR).bP hl;have kH3:af [] H2 H3:=af.made hcx hdc k3;have kH:af [] H H3:=kH2.trans kH3;have hWo:nu W 0 h:=⟨by omega,by omega,by omega,by omega,by omega⟩;have hn0:0<h*(W+1):=Nat.mul_pos (by omega) (by omega);refine⟨_,rfl,_,_,_,_,_,rfl,kH.at hp,T.dj,T.fb,qO,l0,_,rfl,SqL.of (kH.at jj.lst),?_⟩;refine MZ (fun i Y' H'=>∃u v,Y'=[some (V.ref p),some (.ref wd),some (.ref cv),u,v]/\af [] H H'/\H' wd=some (.ins a.cM dw' (wnF W 0 h))/\H' cv=some (.ins a.cn dv (cvF wd c l))/\RwZ H' c (h*(W+1)) (nc W (pc.shapes.drop (pc.shapes.length-i)))/\∃L,RwN H' l (h*(W+1)) L/\Sg35.Ld (h*(W+1)) L 0 (ptd W (pc.shapes.drop (pc.shapes.length-i))))
  ⟨_,_,rfl,kH,kH3.at hw,hcv,?_,_,hrl,?_⟩ (fun i Y' H' ⟨_,_,_,q,_⟩=>SqL.of (q.at jj.lst)) (fun i x Y' H' hi hx ⟨u,v,e1,kH',hw',BI,Ff,L,T8,hL⟩=>?_) (fun Y' H' ⟨u,v,e1,kH',hw',BI,Ff,L,T8,hL⟩=>?_)
 .refine hrc.congr fun k hk=>?_
  rw[sub_zero,drop_length];unfold nc;split<;>rfl
 .rw[sub_zero,drop_length];refine fun i _ hi=>⟨le_refl _,hi,fun _=>?_,fun k k1 k2=>absurd k2 (Nat.not_lt.mpr k1)⟩
  unfold ptd;rw[any_nil,Bool.and_false]
 .subst e1;rw[length_map]at hi hx;rw[List.getElem?_map]at hx;obtain⟨s,hs,rfl⟩:=map_eq_some_iff.mp hx;obtain⟨sh,hsh,hsA⟩:=Dg jj.sh hs;rw[hsl]at hi hsh;have eT:pc.shapes.drop (pc.shapes.length-(i+1))=sh::pc.shapes.drop (pc.shapes.length-i):=by
   obtain⟨hlt,e⟩:=List.getElem?_eq_some_iff.mp hsh;rw[show pc.shapes.length-(i+1)=pc.shapes.length-1-i by omega,List.drop_eq_getElem_cons hlt,e,show pc.shapes.length-1-i+1=pc.shapes.length-i by omega]
  generalize pc.shapes.drop (pc.shapes.length-i)=T0 at Ff hL eT;have XM:=hsA;have hsA:=hsA.keep kH' (fun _ _=>by simp);obtain⟨dh,f,m,y',z1,z2,z3,z4,z5,z6,⟨z7,z8⟩⟩:=id hsA;have mT:=mem_of_getElem? hsh;refine⟨_,rfl,_,_,_,_,_,rfl,z1,T.dC,T.eZ,nU,_,_,_,_,_,rfl,z8,T.gN,T.fQ,pZ,rfl,sh.fill.isSome,congrArg V.bl M3,?_⟩;cases hf:sh.fill with
  |none=>
   have hf':sh.fill.isSome=false:=by rw[hf];rfl
   refine aT ⟨_,_,rfl,kH',hw',BI,?_,L,T8,?_⟩
   .rw[eT,Sg35.FN hf'];exact Ff
   .rw[eT,Sg35.HA hf'];exact hL
  |some co=>
   have hf':sh.fill.isSome=true:=by rw[hf];rfl
   refine a9 ⟨_,rfl,_,rfl,s,wd,F,sh,W,0,h,rfl,hsA,hOk.k sh mT,⟨dw',hw'⟩,hWo,fun q sp H4 k4 hsp hok=>?_⟩;obtain⟨ts,g1,g2⟩:=hsp;refine⟨q,rfl,⟨_,SqL.of g1⟩,?_⟩;have WV:sp.length=ts.length:=(Paired.length g2).symm;have hqc:∀{d:Addr}{f:Nat->Int},RwZ H4 d (h*(W+1)) f->q≠d:=fun{d f} hd z=>by
    subst z;have e:=Option.some.inj (g1.symm.trans hd);have e:=congrArg (fun z=>z[0]?) (HO.lst.inj e);rw[List.getElem?_map,List.getElem?_map,List.getElem?_range hn0]at e;cases h0:ts[0]? with
    |none=>rw[h0]at e;cases e
    |some t=>rw[h0]at e;cases e
   have Ua:RwZ H4 c (h*(W+1)) _:=k4.at Ff;have T7:RwN H4 l (h*(W+1)) L:=k4.at T8;have nq:q∉[c,l]:=by simp[hqc Ua,hqc T7]
   have nil:∀{y C d:Addr}{fs:List (Str×V)},H4 y=some (.ins C d fs)->y∉[c,l]:=fun{y C d fs} z=>by
    have z1:y≠c:=iC z Ua fun z=>nomatch z
    have z2:y≠l:=iC z T7 fun z=>nomatch z
    simp[z1,z2]
   have nw:=nil (k4.at hw');have nv:=nil (k4.at BI);have hK:∀{H5:Hp},af [c,l] H4 H5->af [] H H5:=fun k5=>(kH'.trans k4).grow k5 fun y hy=>.inr (by
    rcases mem_cons.mp hy with e|e
    .rw[e];exact hc0
    .rw[mem_singleton.mp e];exact hl0)
   refine mX (xs:=ts.map V.ref) (fun j Y' H5=>∃v,Y'=[some (V.ref p),some (.ref wd),some (.ref cv),some (.ref s),v]/\af [c,l] H4 H5/\RwZ H5 c (h*(W+1)) (cols (nc W T0) (ptd W T0) (sp.take j) co)/\∃L,RwN H5 l (h*(W+1)) L/\Sg35.Ld (h*(W+1)) L 0 (pnt (ptd W T0) (sp.take j)))
    ⟨_,rfl,af.refl,?_,L,T7,?_⟩ (fun j Y' H5 _ ⟨_,_,k5,_⟩=>SqL.of (k5.kp _ _ g1 nq)) (fun j x Y' H5 hj ⟨v,e1,k5,MM,L5,T6,hL5⟩=>?_) (fun Y' H5 ⟨v,e1,k5,MM,L5,T6,hL5⟩=>?_)
   .refine Ua.congr fun k _=>?_
    unfold cols;rw[List.take_zero,if_neg];rintro⟨_,z⟩;cases z
   .refine hL.congr fun k _=>?_
    unfold pnt;rw[List.take_zero];exact(Bool.or_false _).symm
   .subst e1;rw[List.getElem?_map]at hj;obtain⟨t,ht,rfl⟩:=map_eq_some_iff.mp hj;obtain⟨z,hz,htz⟩:=Dg g2 ht;have hin:=Sg35.LO hok (mem_of_getElem? hz);obtain⟨dh5,f5,m5,y5,w1,w2,w3,w4,w5,w6,⟨w7,w8⟩⟩:=XM.keep (hK k5) (fun _ _=>by simp);have Wi:=k5.kp _ _ (k4.at BI) nv;refine⟨_,rfl,cv,dv,_,rfl,Wi,rfl,_,rfl,_,rfl,_,_,_,_,_,rfl,w1,T.dC,T.eZ,nU,_,_,_,_,_,rfl,w8,T.gN,T.fQ,pZ,cv,wd,c,l,t,h*(W+1),_,L5,_,z,co,by rw[hf];rfl,⟨dv,Wi⟩,k5.tp _ _ htz,MM,T6,hcl,hL5,hin,fun L' e H6 k6 he XS XR hL6=>⟨_,rfl,k5.trans k6,?_,L',XR,?_⟩⟩
    .rw[take_succ,hz];show RwZ H6 c _ (cols _ _ (sp.take j++[z]) _);rw[<-Sg35.FK hin.1 (by omega) he];exact XS
    .rw[take_succ,hz];show Sg35.Ld _ _ _ (pnt _ (sp.take j++[z]));rw[<-Sg35.HD hin.1 (by omega)];exact hL6
   .rw[length_map,<-WV,take_length]at MM hL5;refine⟨_,_,e1,hK k5,k5.kp _ _ (k4.at hw') nw,k5.kp _ _ (k4.at BI) nv,?_,L5,T6,?_⟩
    .rw[eT];exact MM.congr fun k hk=>Sg35.FO hok hf hk
    .rw[eT];exact hL5.congr fun k hk=>Sg35.HB hok hf' hk
 .subst e1;rw[length_map,hsl,Nat.sub_self,List.drop_zero]at Ff;exact⟨_,rfl,cv,dv,_,rfl,BI,rfl,cv,wd,c,l,W,h,_,rfl,⟨dv,BI⟩,⟨dw',hw'⟩,by omega,by omega,Ff,fun t H6 k6 hls=>k t H6 (kH'.trans k6) hls⟩
end Pg
namespace Pg
open PySem PySem.Spec PyProof.Rows L2 TL PySem.W
variable{P:Program}{w:World}{K:Frag}{mg:Str->Option Value}{bZ:Heap}{a:Adr}(T:TX P w K mg bZ a)
theorem R3(Ll:T.Qu):T.WI:=by
 refine T.Nr.fn.okA GB fun H Q E hr h=>?_
 obtain⟨p,l,ss,F,pc,most,rfl,jj,hOk,k⟩:=h;refine⟨_,(aa (aw 2 GB.nd (ao aH (ax (pv 0)) (ax (pv 0))))
   (aa (aR (aF jX (pv 2) (pv 1)) (ah (aD (cW (pa1 (aB T.oy))))) aI)
   (ah (aD (ao HV (cW (pa1 (pv 2))) (pcD Ll hr T.N1 cp (pa1 (pv 0)))))))),?_⟩
 dsimp only[bq];obtain⟨dx,hp⟩:=jj.ob;obtain⟨⟨hw0,hw1⟩,hh0,hh1⟩:=And.intro hOk.w hOk.h;refine⟨_,rfl,_,_,_,_,_,rfl,hp,T.dj,T.fJ,ug,_,rfl,_,_,_,_,_,rfl,hp,T.dj,T.fc,qP,_,_,rfl,rfl,.inl ⟨by omega,by omega⟩,?_⟩;dsimp only;rw[show(pc.width:Int)*(pc.height:Int)=((pc.width*pc.height:Nat):Int)from(natCast_mul _ _).symm];refine⟨_,rfl,_,rfl,_,_,rfl,rfl,decide (((pc.width*pc.height:Nat):Int)>most),rfl,?_⟩;unfold jm at k;by_cases h0:((pc.width*pc.height:Nat):Int)>most
 .rw[if_pos h0]at k;exact dT h0 ⟨sl1,fun u hu=>k u _ ae⟩
 rw[if_neg h0]at k;refine dF h0 ⟨_,rfl,sl1,fun q hq=>⟨_,rfl,p,l,ss,F,pc,rfl,jj.keep (M:=[]) (af.new hq) (by simp) (by simp) (fun _ _=>by simp),hOk,fun t H' kp hls=>⟨q,t,_,_,rfl,rfl,kp.at ae,hls,?_,fun u hu=>k u _ ae⟩⟩⟩;have h2:pc.height*pc.width<=1024*1024:=mul_le_mul hh1 hw1;rw[length_map,r6,sizeLine_eq];show 1+_<=_;omega
inductive iw(K:Frag)(pt:Addr)(vs:List V)(H:Hp)(Q:VK)(E0:XK):Prop where
 |mk (k:Int)(t:Addr)(b:B)(_:vs=[.int k,.ref t])(_:H pt=some (.tbl #[]))(_:SqL K H t (b.map fun(c:Nat)=>V.int (c:Int)))(_:Byt b)(_:b.length<=65600)(_:∀u H',LsI H' u (if k<0 then [-1]else kC (jm k) b)->Q (.ref u) H'):iw K pt vs H Q E0
inductive CW(a:Adr)(K:Frag)(vf:List V)(f:Addr)(vs:List V)(H:Hp)(Q:VK)(E:XK):Prop where
 |mk (k:Int)(_:vf=[.int k])(_:gT a K f (jm k) vs H Q E):CW a K vf f vs H Q E
theorem SqL.but{K:Frag}{H H':Hp}{t pt:Addr}{xs:List V}{ps:Array Value}(h:SqL K H t xs)(hp:H pt=some (.tbl ps))(hk:∀b o,b≠pt->H b=some o->H' b=some o):SqL K H' t xs:=by
 rcases h with(h|⟨o,h⟩)|h
 .exact .inl (.inl (hk _ _ (iC h hp fun z=>nomatch z) h))
 .exact .inl (.inr ⟨o,hk _ _ (iC h hp fun z=>nomatch z) h⟩)
 .exact .inr h
theorem HX(T:Txt K mg a){c pt:Addr}(g0:(adD K "paint").code=.ref c)(hC:CodeHd bZ c pt)(hB:bZ.BuiltinsAt mg pt)
  (Kr:∀(bZ:Heap)(fA:Addr)(dA:FuncData)(ans:Picture->List Int),eF P w K mg bZ CX0 8 fA dA ["picture"] (AO a K ans)->FnAt fA bZ->Binds K dA ["picture"] []->eF P w K mg bZ (CXW P w a.cQ) 13 (adF K "answered") (adD K "answered") ["text","answer"] (gT a K fA ans))
  (Km:∀bZ:Heap,eF P w K mg bZ CX0 7 (adF K "dots_of") (adD K "dots_of") ["picture","most"] (qe a K)):
  eF P w K mg bZ (CXW P w a.cQ) 14 (adF K "paint") (adD K "paint") ["most","text"] (iw K pt):=by
 obtain⟨oc,od,kV,doc,pm,an,cdv,ct,osl,hfd,lk,hcd⟩:=T.pJ.fn.ex;rw[hfd]at g0 lk ⊢;have g0:cdv=.ref c:=g0;subst g0;refine Jf lk hcd GK (fun vs H Q E h=>?_) fun A outer s H vs Q E hr h=>?_
 .obtain⟨k,t,b,rfl,_⟩:=h;rfl
 obtain⟨k,t,b,rfl,hp,hs,hby,hlen,q⟩:=h;refine⟨_,aa (aR (aF uh (pv 0) ag) (ah (aD (cW (pa1 (aB T.iM))))) aI) (ah (aD (RV (frees:=["most"]) (pt:=pt) (sp:=CW a K) (k:=13) 1 (fun Ad vf f fd hK hN hL hv=>?_) (hr.mono (by decide)) (by rfl) T.CH.mg T.CH.fn.kp T.CH.b ay rfl hC hB (by rfl) rfl (fun y c h=>h) (fun y h=>?_) (fun y hy=>?_) (fun _=>rfl)))),?_⟩
 .by_cases hk:∃k:Int,vf=[.int k]
  .obtain⟨k,rfl⟩:=hk;refine(Kr Ad f fd (jm k) ?_ hL.fnAt ?_).imp fun vs H Q E ⟨k',e,h⟩=>by cases e;exact h
   .refine Uv (k:=7) hL ⟨rfl,rfl,rfl,rfl,by decide +kernel,by decide +kernel⟩ (by decide +kernel) rfl (fun vs H Q E h=>?_) fun cd eh A outer s H v Q E hr h=>?_
    .obtain⟨p,l,ss,F,pc,rfl,_⟩:=h;rfl
    .obtain⟨p,l,ss,F,pc,hv,jj,hOk,hk⟩:=h;cases hv;exact⟨_,pcD (Km Ad) hr T.Nr cp (ai (pv 0) (pa1 (pv 1))),_,rfl,_,rfl,p,l,ss,F,pc,k,rfl,jj,hOk,hk⟩
   .obtain⟨eh,pm,c',ctv,rfl,_⟩:=hL.ex;exact .all fun us hl=>match us,hl with|[_],_=>rfl
  .exact⟨fun vs H Q E ⟨k,e,_⟩=>absurd ⟨k,e⟩ hk,fun A outer s H args us vs Q E _ _ _ _ ⟨k,e,_⟩=>absurd ⟨k,e⟩ hk⟩
 .have h:=PySem.mem_of_lookup h;simp at h;subst h;exact⟨_,rfl⟩
 .have e:y="most":=by simpa using hy
  subst e;exact⟨rfl,rfl⟩
 .refine⟨_,rfl,_,_,rfl,rfl,decide (k<0),rfl,?_⟩;by_cases h0:k<0
  .refine dT h0 ⟨sl1,fun u hu=>q u _ ?_⟩;rw[if_pos h0];exact ae
  rw[if_neg h0]at q;refine dF h0 ⟨.ref t,[.int k],rfl,hp,rfl,fun j y z h1 h2=>?_,fun f H' hk hf=>⟨k,rfl,t,b,rfl,?_,hby,hlen,q⟩⟩
  .cases j with
   |zero=>cases h1;cases h2;exact⟨0,rfl,rfl⟩
   |succ j=>cases h1
  .exact SqL.but hs hp hk
end Pg
namespace L2
open PySem PySem.Spec PyProof.Rows
def Ans(out:List Int):VK:=fun v H'=>∃l,v=.ref l/\H' l=some (.lst (out.map V.int))
def QK(out:List Int)(r:Result)(s':Shared):Prop:=∃l its n,r=.ok (.ret (.ref l))/\s'.heap.get? l=some {cls:=.type "list",data:=.seq its n}/\IntsAre its.toList out
theorem readsAllW_ints{R:PySem.W.WRecords}{cl:Str->Option Addr}{h:Heap}:∀{vs:List Value}{ns:List Int},IntsAre vs ns->PySem.W.ReadsAllW R cl h vs (ns.map PySem.W.WData.int) []
 |_,_,.nil=>.nil
 |_,_,.cons i t r=>.cons (as:=[]) (bs:=[]) (.int i t) (readsAllW_ints r)
end L2
namespace L2
open PySem PySem.Spec PyProof.Rows PySem.W
theorem AK{P:Program}{w:World}{K:Frag}{mg mb:Str->Option Value}{CX:CXT}{k:Nat}{fa a c pt:Addr}{fd:FuncData}{ps:List Str}{sp:Sp}{s₁:Shared}{vs us:List Value}{ns is out:List Int}
  (KX:K.In s₁.heap) (hns:s₁.heap.Ns mainGlobals mg) (hb:s₁.heap.Ns builtinsNs mb) (hbb:∀x:Str,x ≠ "__name__"->mb x=bootBuiltins x) (X6:s₁.heap.NoLimit) (hg:s₁.gens=#[])
  (ha:s₁.heap.get? a=some {cls:=.type "list",data:=.seq vs.toArray}) (hi:IntsAre vs ns) (hl:ns.length<=sizeLine) (hu:IntsAre us is) (hr:ed k callerA)
  (B:Based s₁.heap s₁.heap c pt #[]) (hT:noTabs K=true) (hbm:∃bm ob,mg "__builtins__"=some (.ref bm)/\bm≠builtinsNs/\s₁.heap.get? bm=some ob/\ob.cls=.type "module"/\ob.dict=some builtinsNs/\ob.data=.plain)
  (F:∀bZ:Heap,K.In bZ->bZ.Ns mainGlobals mg->CodeHd bZ c pt->bZ.BuiltinsAt mg pt->eF P w K mg bZ CX k fa fd ps sp) (Wk:BindsTo s₁ fd ⟨us++[.ref a],[]⟩ (ps.zip (us++[.ref a])))
  (hsp:∀H:Hp,H pt=some (.tbl #[])->SqL K H a (ns.map V.int)->sp (is.map V.int++[.ref a]) H (Ans out) fun _ _ _=>False)
  (hCX:∀H e s',CX [] H s₁ (fun _ _ _=>False) e s'->False):
  codeAny (model P w) callerA (.call (.ref fa) ⟨us++[.ref a],[]⟩) (fun r s'=>QK out r s'/\OldK s₁.heap s'.heap/\s'.os=s₁.os/\AllBare s'.gens) s₁:=by
 have rv:=nI hi;have Xp:=hi.length;have hpt:s₁.heap.get? pt=some (tabObj #[]):=B.tab.2;have apt:a≠pt:=fun z=>by
  rw[z,hpt]at ha;cases ha
 have core:∀H:Hp,H pt=some (.tbl #[])->SqL K H a (ns.map V.int)->HOk P w H s₁.heap->(∀b u,H b=some u->b=pt\/(b=a/\∃ob xs,u=.frz ob xs))->(H a≠none->K.lookup a=none)->
   codeAny (model P w) callerA (.call (.ref fa) ⟨us++[.ref a],[]⟩) (fun r s'=>QK out r s'/\OldK s₁.heap s'.heap/\s'.os=s₁.os/\AllBare s'.gens) s₁:=by
  intro H hP hS hok hA hK;have pP:∀{b:Addr}{o:Obj},s₁.heap.get? b=some o->H b=none->(rO s₁.heap H).get? b=some o:=fun e n=>IY e n
  have free:∀{b:Addr}{o:Obj},s₁.heap.get? b=some o->o.cls≠.type "list"->o.cls≠.none->H b=none:=fun{b o} e n1 n2=>by
   cases q:H b with
   |none=>rfl
   |some u=>
    rcases hA b u q with z|⟨z,_⟩
    .rw[z,hpt]at e;cases e;exact absurd rfl n2
    .rw[z,ha]at e;cases e;exact absurd rfl n1
  have noA:∀{b:Addr}{o:Obj}{es:Array DictEntry}{ep:Nat},s₁.heap.get? b=some o->o.data=.dict es ep->H b=none:=fun{b o es ep} e d=>by
   cases q:H b with
   |none=>rfl
   |some u=>
    rcases hA b u q with z|⟨z,_⟩
    .rw[z,hpt]at e;cases e;cases d
    .rw[z,ha]at e;cases e;have d':Data.seq vs.toArray _=Data.dict es ep:=d;cases d'
  have nsK:∀{b:Addr}{m:Str->Option Value},s₁.heap.Ns b m->(rO s₁.heap H).Ns b m:=fun{b m} ⟨o,es,ep,e,d,r⟩=>⟨o,es,ep,pP e (noA e d),d,r⟩
  have hKb:K.In (rO s₁.heap H):=fun b o e=>pP (KX b o e) (by
   cases q:H b with
   |none=>rfl
   |some u=>
    rcases hA b u q with z|⟨z,_⟩
    .have e1:=KX b o e;rw[z,hpt]at e1;have h2:=all_eq_true.mp hT (b,o) (mem_of_lookupK e);cases e1;exact absurd (show false=true from h2) Bool.false_ne_true
    .have hk:=hK (by rw[<-z,q];simp)
     rw[z,hk]at e;cases e)
  have hM:Mod K mg (rO s₁.heap H):=⟨hKb,nsK hns,⟨mb,nsK hb,hbb⟩,let ⟨mc,h1,h2⟩:=X6;⟨mc,nsK h1,h2⟩⟩;have hCo:CodeHd (rO s₁.heap H) c pt:=by
   obtain⟨o,vs,file,tf,flags,tg,inF,text,tt,e1,e2,r⟩:=CodeHd.of B.code B.tab;exact⟨o,vs,file,tf,flags,tg,inF,text,tt,pP e1 (free e1 (by rw[e2];decide) (by rw[e2];decide)),e2,r⟩
  have hBu:(rO s₁.heap H).BuiltinsAt mg pt:=by
   obtain⟨bm,ob,b1,b2,b3,b4,b5,b6⟩:=hbm;refine⟨bm,ob,b1,b2,fun z=>?_,fun z=>?_,pP b3 (free b3 (by rw[b4];decide) (by rw[b4];decide)),b4,b5,b6⟩
   .obtain⟨o,es,ep,e,d,_⟩:=hns;rw[z,e]at b3;cases b3;rw[d]at b6;cases b6
   .rw[z,hpt]at b3;cases b3;cases b4
  have e0:Ap P w K mg (rO s₁.heap H) callerA [] s₁ H:=⟨rfl,hM,fun b o e=>Mo e,le_of_eq (Fl _ _),trivial,fun b hb=>absurd (show b∈([]:List Addr)from hb) (by simp),hok,.of_eq hg⟩;have rr:Vals (is.map V.int++[.ref a]) (us++[.ref a]):=(nI hu).append (.cons rfl .nil);refine codeAny_mono ((F _ hKb (nsK hns) hCo hBu).run callerA [] s₁ H ⟨us++[.ref a],[]⟩ (us++[.ref a]) _ _ _ hr e0 Wk rr (hsp H hP hS)) fun r s' h=>?_
  cases r with
  |error e=>exact(hCX H e s' h).elim
  |ok fl=>
   cases fl with
   |next=>exact False.elim h
   |brk=>exact False.elim h
   |cont=>exact False.elim h
   |ret u=>
    obtain⟨v,H',os,bare,un,Ug,r',l,rfl,hl'⟩:=h;obtain rfl:u=Value.ref l:=r';obtain⟨_,its,n,ri,eo⟩:=Ug l _ hl';have kept:∀b o,b≠pt->s₁.heap.get? b=some o->s'.heap.get? b=some o:=fun b o hb e=>by
     cases q:H b with
     |none=>exact un.keep b o e q (by intro z;exact absurd (show b∈([]:List Addr)from z) (by simp)) (by simp)
     |some u=>
      rcases hA b u q with z|⟨z,ob,xs,rfl⟩
      .exact absurd z hb
      .have z2:=un.kj b ob _ q;obtain⟨e1,_⟩:=hok b _ q;obtain⟨e2,_⟩:=Ug b _ z2;rw[e]at e1;cases e1;exact e2
    obtain⟨more,hm⟩:=un.kS pt _ hP;have hm2:s'.heap.get? pt=some {cls:=.none,data:=.fields (#[]++more)}:=Ug pt _ hm;refine⟨⟨l,its.toArray,n,rfl,eo,by simpa using intsAre_of ri⟩,⟨fun b o e=>?_,fun b o e=>?_⟩,os,bare⟩
    .by_cases hb:b=pt
     .subst hb;rw[hpt]at e;cases e;exact .inr (.inl ⟨B.tab.isCodeTable,rfl,#[],more,rfl,hm2⟩)
     .exact .inl (kept b o hb e)
    .by_cases hb:b=pt
     .subst hb;exact⟨_,hm2⟩
     .exact⟨o,kept b o hb e⟩
 cases hk:K.lookup a with
 |some o=>
  have e:=KX a o hk;rw[ha]at e;cases e;refine core (fun b=>if b=pt then some (.tbl #[])else none) (if_pos rfl) (.inr ⟨_,vs.toArray,_,hk,rfl,rfl,rfl,by rw[size_toArray,Xp];exact hl,by simpa using rv⟩) (fun b u z=>?_) (fun b u z=>?_) fun z=>absurd (if_neg apt) z
  .by_cases hb:b=pt
   .have z':=(if_pos hb).symm.trans z;cases z';subst hb;exact hpt
   .have z':=(if_neg hb).symm.trans z;cases z'
  .by_cases hb:b=pt
   .exact .inl hb
   .have z':=(if_neg hb).symm.trans z;cases z'
 |none=>
  refine core (fun b=>if b=pt then some (.tbl #[])else if b=a then some (.frz {cls:=.type "list",data:=.seq vs.toArray} (.lst (ns.map V.int)))else none) (if_pos rfl) (.inl (.inr ⟨{cls:=.type "list",data:=.seq vs.toArray},(if_neg apt).trans (if_pos rfl)⟩)) (fun b u z=>?_) (fun b u z=>?_) fun _=>hk
  .by_cases hb:b=pt
   .have z':=(if_pos hb).symm.trans z;cases z';subst hb;exact hpt
   .have z1:=(if_neg hb).symm.trans z;by_cases hb2:b=a
    .have z':=(if_pos hb2).symm.trans z1;cases z';subst hb2;exact⟨ha,by rw[length_map];exact hl,vs,_,rv,ha⟩
    .have z':=(if_neg hb2).symm.trans z1;cases z'
  .by_cases hb:b=pt
   .exact .inl hb
   .have z1:=(if_neg hb).symm.trans z;by_cases hb2:b=a
    .have z':=(if_pos hb2).symm.trans z1;cases z';exact .inr ⟨hb2,_,_,rfl⟩
    .have z':=(if_neg hb2).symm.trans z1;cases z'
theorem AJ{r:PySem.W.OpenSpec}{n k:Nat}{lo hi lo1 hi1:Int}{q:Program}{loose:List Str}{XP:(Str->Option Value)->Heap->Prop}{YP:World->Heap->Prop}{d:DefRec}{K:Params->Frag}{CX:World->CXT}{sp:World->Addr->Sp}{x y:Str}
  {least most:Nat} {blo bhi:Int} {f:Int->List Int->List Int} (asked:Codec.fn Bool [.int lo1 hi1,.list 0 n (.int lo hi)])
  (d7:r=⟨r.prog,r.name,[.int lo1 hi1,.list 0 n (.int lo hi)],.list least most (.int blo bhi),asked,f⟩)
  (hn2:n<=sizeLine) (hr:ed k callerA) (hf:(recsOf q).find? (fun e=>e.name==d.name)=some d)
  (hY:∀(w:World)(h:Heap),YP w h->(K w.params).In h) (hT:∀w:World,noTabs (K w.params)=true)
  (F:∀(w:World)(mg:Str->Option Value)(fa:Addr)(h:Heap),(K w.params).In h->h.Ns mainGlobals mg->mg d.name=some (.ref fa)->
   ∃fd:FuncData,(∃oc od osl,(K w.params).lookup fa=some ⟨oc,od,.func fd,osl⟩)/\(∀(s:Shared)(u v:Value),(K w.params).In s.heap->BindsTo s fd ⟨[u,v],[]⟩ [(x,u),(y,v)])/\
    ∀(bZ:Heap)(c pt:Addr),fd.code=.ref c->(K w.params).In bZ->bZ.Ns mainGlobals mg->CodeHd bZ c pt->bZ.BuiltinsAt mg pt->eF r.prog w (K w.params) mg bZ (CX w) k fa fd [x,y] (sp w pt))
  (hsp:∀(w:World)(H:Hp)(pt a:Addr)(z:Int)(ns:List Int),ns.length<=n->(∀z∈ns,lo<=z/\z<=hi)->H pt=some (.tbl #[])->SqL (K w.params) H a (ns.map V.int)->sp w pt [.int z,.ref a] H (Ans (f z ns)) fun _ _ _=>False)
  (hCX:∀(w:World)(H:Hp)(s:Shared)(e:Value)(s':Shared),CX w [] H s (fun _ _ _=>False) e s'->False):
  WalkOS q loose XP YP r d [] (fun f vs=>PySem.call f vs):=by
 intro w s₀ s₁ mg mb G Y fa o pm cd doc dV kV ho hd hcd hD hmg hg args vals as Fg YZ hrd hwl hlo;have hsh:=PySem.W.os_shapes _ Fg;have ea:r.args=[.int lo1 hi1,.list 0 n (.int lo hi)]:=by rw[d7]
 have KX:=hY w _ Y;obtain⟨fd,⟨oc,od,osl,lk⟩,hb,hF⟩:=F w mg fa _ KX G.T.g hmg;obtain⟨c,pt,g0,B⟩:=based_of_top (fd:=fd) G.T hf hmg (KX _ _ lk) rfl;rw[ea]at hsh;obtain⟨d1,YM,rfl,h0,h2⟩:=hasAllW_cons hsh;obtain⟨dd,rest,rfl,h1,h2⟩:=hasAllW_cons h2;obtain rfl:=PySem.W.hasAllW_nil h2;obtain⟨xs,rfl,h3⟩:=PySem.W.hasW_list h1;obtain⟨ns,rfl⟩:=PySem.W.items_int h3;obtain⟨z,rfl⟩:=PySem.W.hasW_int h0;have uy:=PySem.W.os_pre_isSome Fg;have e1:PySem.W.WData.list (ns.map PySem.W.WData.int)=ofPy (PyData.list (ns.map PyData.int)):=(PySem.W.os_list rfl).symm;have e2:Codec.decAll [.int lo1 hi1,.list 0 n (.int lo hi)] [.int z,.list (ns.map PySem.W.WData.int)]=Codec.both Prod.mk (if Codec.inInt lo1 hi1 z=true then some z else none) (Codec.decAll [.list 0 n (.int lo hi)] [PySem.W.WData.list (ns.map PySem.W.WData.int)]):=rfl;have Fo:Codec.decAll [.int lo1 hi1,.list 0 n (.int lo hi)] [.int z,.list (ns.map PySem.W.WData.int)]=some (z,ns,())/\0<=ns.length/\ns.length<=n/\∀x∈ns,lo<=x/\x<=hi:=by
  rw[ea,e2]at uy;rw[e2];cases q1:Codec.inInt lo1 hi1 z with
  |false=>rw[q1]at uy;cases uy
  |true=>
   rw[q1]at uy;cases q2:Codec.decAll [.list 0 n (.int lo hi)] [PySem.W.WData.list (ns.map PySem.W.WData.int)]with
   |none=>rw[q2]at uy;cases uy
   |some v=>
    have z:=PySem.W.os_dec_ints (least:=0) (most:=n) (lo:=lo) (hi:=hi) (ns:=ns) (by rw[<-e1,q2];rfl);rw[<-e1,q2]at z;obtain⟨z1,z2⟩:=z;cases z1;exact⟨rfl,z2⟩
 obtain⟨hd1,_,hlen,Uk⟩:=Fo;cases hwl with
 |cons w0 w2=>
  cases w0 with
  |int _ tz=>
  cases w2 with
  |cons w1 w2=>
  cases w2;cases w1 with
  |list hob kW=>
   have hints:=Att.pD ns _ kW;refine PySem.W.enter_call (codeAny_mono (AK (is:=[z]) (us:=[.int z tz]) (out:=f z ns) (ps:=[x,y]) KX G.T.g G.T.b G.T.builtins G.T.nolimit hg hob hints (le_trans hlen hn2) (.cons z tz .nil) hr B (hT w) G.T.bmain (fun bZ=>hF bZ c pt g0) (hb s₁ _ _ KX) (fun H hP hS=>hsp w H pt _ z ns hlen Uk hP hS) fun H e s'=>hCX w H s₁ e s') fun res s' hq=>?_);obtain⟨⟨l,its,m,rfl,hl,hits⟩,h2,h3,h4⟩:=hq;refine⟨.inl ⟨.ref l,.list ((f z ns).map PySem.W.WData.int),[l],rfl,fun _=>rfl,.list hl rfl rfl (readsAllW_ints hits),?_,fun h=>absurd h Bool.false_ne_true⟩,h2,h3,h4⟩;show r.post _ _=true;rw[d7];exact PySem.W.os_post (r:=⟨r.prog,r.name,[.int lo1 hi1,.list 0 n (.int lo hi)],.list least most (.int blo bhi),asked,f⟩) hd1 (PySem.W.same_self _)
end L2
namespace Pg
open PySem PySem.Spec PyProof.Rows L2 TL
theorem UM{P:Program}{w:World}{K:Frag}{mg:Str->Option Value}{bZ:Heap}{a:Adr}(T:Txt K mg a)(hw:w.params=a.prm){c pt:Addr}(g0:(adD K "paint").code=.ref c)(hC:PySem.W.CodeHd bZ c pt)(hB:bZ.BuiltinsAt mg pt):
  eF P w K mg bZ (CXW P w a.cQ) 14 (adF K "paint") (adD K "paint") ["most","text"] (iw K pt):=by
 refine HX T g0 hC hB (fun bZ fA dA ans sU ou ow=>?_) (fun bZ=>?_)
 .have T:TX P w K mg bZ a:=⟨T⟩;have fC:=Ml T;have sQ:=qT T;have lE:=vZ T;have cF:=yj T;have gn:=Dk T;have uX:=HW T;have sT:=Tn T cF gn uX;have ee:=Mj T;have nE:=yi T;have uQ:=Se T nE cF;have KL:=Sw T nE uX;have Lw:=Th T cF lE uQ ee KL;have Kp:=R6 T;have uP:=R9 T uQ Lw gn ee Kp;have KG:=Sq T gn;have uV:=SY T KG cF;have jB:=yk T;have sS:=Te T fC uV jB;have sR:=Td T sS;have iP:=R0 T;have Li:=S0 T;have KJ:=Sv T sR iP Li;have Kz:=Sl T;have Ky:=Sk T fC ee cF jB Kz;have Kx:=Sj T;have uR:=Ss T;have uO:=R1 T Ky Kx uR;have uU:=SD T;have KW:=SJ T;have KO:=SA T;have nB:=Sb T cF lE uV gn;have Cv:=Mi T;have Lh:=SX T Cv;have KA:=Sm T cF ee nB Lh;have Lo:=S7 T;have Lg:=SW T fC cF sQ KO KA Lo;have KH:=Sr T;have uS:=Sx T sS;have sP:=SO T sR iP;have nD:=S1 T;have eJ:=Mn T;have Kt:=Sf T uS sP nD eJ;have KS:=SH T;have K0:=SN T uS KS sP;have Kq:=R7 T;have Lb:=SR T;have Lc:=SS T;have uW:=Tf T eJ;have Lv:=Tg T eJ;have Kn:=R4 T;have Ls:=Tb T;have Lp:=S8 T Kn Ls;have KN:=Sy T Lb Lc uW Lv Lp;have La:=SQ T hw KN;have Lr:=Ta T La uW;have Ku:=Sg T fC Kq cF sQ lE nE Lr nB;have KC:=So T fC nB jB;have KZ:=SM T KC iP nD eJ;have KY:=SK T Kt K0 nD Ku iP KZ;have KI:=Su T ee uP KW Lg uO KH KY uU;have KU:=SI T uU sT gn ee KI;have Lk:=S3 T fC sT ee uP KJ uO uR KU jB;have Ko:=R5 T;have Ks:=Sd T Ko;have Kr:=R8 T sU ou ow Lk Ks;exact Kr
 .have T:TX P w K mg bZ a:=⟨T⟩;have KR:=SG T;have KQ:=SF T;have kR:=HY T;have Lj:=S2 T kR;have uT:=Sz T;have Ln:=S6 T uT;have Lm:=S5 T Lj uT Ln;have Kw:=Si T kR;have DS:=Sa T;have Lf:=SV T DS;have Le:=SU T Kw Lf;have Kv:=Sh T;have Lu:=Tc T Le Kv;have Lq:=S9 T Lm Lu;have DU:=Tj T;have Lx:=Ti T DU;have KP:=SE T;have Ll:=S4 T KR KQ Lq Lx KP;have Km:=R3 T Ll;exact Km
section
variable{K:Frag}{mg:Str->Option Value}{h:Heap}
def c8(K:Frag)(C:Addr)(x qual:Str)(st:Stmt)(ps:List Str):Prop:=∃(f:Addr)(d:FuncData),Fun K x qual st f d/\Binds K d ps []/\Meth K C x f
theorem UB{x:Str}{st:Stmt}{ps:List Str}{f:Addr}{oc:Value}{od an:Option Addr}{osl:Array (Option Value)}{kV doc pm cdv ct:Value}(X:K.In h)(G:h.Ns mainGlobals mg)
  (e:nsIn K mainGlobals x=some (some (.ref f))) (l:K.lookup f=some ⟨oc,od,.func (fnOf x x (gx st) (d8 st) (aj st) .none kV doc pm an cdv ct),osl⟩)
  (c:codeIn K cdv x=true) (k:keepIn K (.ref f)=true)
  (b:∀(kV doc pm:Value)(an:Option Addr)(cdv ct:Value)(us:List Value),us.length=ps.length->bindArgs (fnOf x x (gx st) (d8 st) (aj st) .none kV doc pm an cdv ct) ⟨us,[]⟩=pure (ps.zip us)):
  DT K mg x st (adF K x) (adD K x) ps:=by
 have e1:adF K x=f:=by
  unfold adF;rw[e]
 have e2:adD K x=fnOf x x (gx st) (d8 st) (aj st) .none kV doc pm an cdv ct:=by
  unfold adD;rw[e1,l]
 rw[e1,e2];exact⟨wR l c k,(wR l c k).binds b,mg_of X G e⟩
theorem Tt{x qual:Str}{st:Stmt}{ps:List Str}{C f:Addr}{oc:Value}{od an:Option Addr}{osl:Array (Option Value)}{kV doc pm cdv ct:Value}
  (e:findIn K (.ref C) x=some (some (.ref f))) (l:K.lookup f=some ⟨oc,od,.func (fnOf x qual (gx st) (d8 st) (aj st) .none kV doc pm an cdv ct),osl⟩)
  (c:codeIn K cdv qual=true) (k:keepIn K (.ref f)=true) (i:isFn K (.ref f)=true)
  (b:∀(kV doc pm:Value)(an:Option Addr)(cdv ct:Value)(us:List Value),us.length=ps.length->bindArgs (fnOf x qual (gx st) (d8 st) (aj st) .none kV doc pm an cdv ct) ⟨us,[]⟩=pure (ps.zip us)):
  c8 K C x qual st ps:=
 ⟨f,_,wR l c k,(wR l c k).binds b,⟨e,i,k⟩⟩
theorem UQ{C:Addr}{x:Str}(e:nsIn K mainGlobals x=some (some (.ref C)))(q:excIn K C [.type "ValueError",.type "Exception",.type "BaseException",.type "object"] "ValueError.__new__"=true):∃C,Ct K mg x C:=⟨C,e,q⟩
theorem gl_int{x:Str}{n:Int}{t:Tok}(X:K.In h)(G:h.Ns mainGlobals mg)(e:nsIn K mainGlobals x=some (some (.int n t))):Glob mg x (.int n):=⟨_,mg_of X G e,t,rfl⟩
theorem gl_str{x s:Str}{t:Tok}(X:K.In h)(G:h.Ns mainGlobals mg)(e:nsIn K mainGlobals x=some (some (.str s t))):Glob mg x (.str s):=⟨_,mg_of X G e,t,rfl⟩
theorem vd{g:Addr}{o:Obj}{its:Array Value}{n:Nat}{xs:List V}(l:K.lookup g=some o)(c:o.cls=.type "tuple")(d:o.data=.seq its n)(z:its.size<=sizeLine)(v:Vals xs its.toList):KTu K g xs:=fun _=>.inr ⟨o,its,n,l,c,d,z,v⟩
end
theorem bn1{fd:FuncData}{x:Str}(h:∀a,bindArgs fd ⟨[a],[]⟩=pure [(x,a)])(us:List Value)(hl:us.length=[x].length):bindArgs fd ⟨us,[]⟩=pure ([x].zip us):=match us,hl with|[a],_=>h a
theorem bn2{fd:FuncData}{x y:Str}(h:∀a b,bindArgs fd ⟨[a,b],[]⟩=pure [(x,a),(y,b)])(us:List Value)(hl:us.length=[x,y].length):bindArgs fd ⟨us,[]⟩=pure ([x,y].zip us):=match us,hl with|[a,b],_=>h a b
theorem bn3{fd:FuncData}{x y z:Str}(h:∀a b c,bindArgs fd ⟨[a,b,c],[]⟩=pure [(x,a),(y,b),(z,c)])(us:List Value)(hl:us.length=[x,y,z].length):bindArgs fd ⟨us,[]⟩=pure ([x,y,z].zip us):=match us,hl with|[a,b,c],_=>h a b c
theorem bn4{fd:FuncData}{x y z v:Str}(h:∀a b c d,bindArgs fd ⟨[a,b,c,d],[]⟩=pure [(x,a),(y,b),(z,c),(v,d)])(us:List Value)(hl:us.length=[x,y,z,v].length):bindArgs fd ⟨us,[]⟩=pure ([x,y,z,v].zip us):=match us,hl with|[a,b,c,d],_=>h a b c d
theorem TV{K:Frag}{mg:Str->Option Value}{h:Heap}{x y:Str}{C D:Addr}{b:Bool}(X:K.In h)(G:h.Ns mainGlobals mg)(e1:nsIn K mainGlobals x=some (some (.ref C)))(e2:nsIn K mainGlobals y=some (some (.ref D)))
  (ha:findIn K (.ref C) "__class__"=some (some (.builtin "object.__class__"))) (hn:specialIn K (.builtin "object.__class__") "__get__"=some (some (.builtin "getset_descriptor.__get__"))) (htk:takesIn K (.builtin "object.__class__")=some true) (hm:mroIn K C (.type "object")=some true) (one:kitOne K (.ref C) (.ref D)=some b):
  ∀C D,mg x=some (.ref C)->mg y=some (.ref D)->Cls K C->FY K C D b:=fun C' D' h1 h2 cl=>by
 have q1:=h1.symm.trans (mg_of X G e1);have q2:=h2.symm.trans (mg_of X G e2);cases q1;cases q2;exact⟨cl,ha,hn,htk,hm,one⟩
def ClsAt(K:Frag)(C:Addr):Prop:=Cls K C/\makesIn K C=true/\keepIn K (.ref C)=true
theorem UH{K:Frag}{C:Addr}(pg:plainGet K C Str.empty=true)(hd:hasDictIn K C=true)(po:plainOver K C=true)(sa:findIn K (.ref C) "__setattr__"=some (some (.builtin "object.__setattr__")))(mk:makesIn K C=true)(kc:keepIn K (.ref C)=true):ClsAt K C:=⟨⟨pg,hd,po,sa⟩,mk,kc⟩
theorem VC{K:Frag}{C:Addr}{x:Str}(e:findIn K (.ref C) x=some none):aE K C x:=e
structure bV(K:Frag)(mg:Str->Option Value)(C:Addr):Prop where
 mgc:mg "Reader"=some (.ref C)
 o:ClsAt K C
 Ih:aE K C "signs"
 Ij:aE K C "place"
 wF:c8 K C "__init__" "Reader.__init__" G0 ["self","signs"]
 jc:c8 K C "ended" "Reader.ended" G5 ["self"]
 ig:c8 K C "sees_one" "Reader.sees_one" Hc ["self","allowed"]
 gL:c8 K C "skip" "Reader.skip" GZ ["self","word"]
 gd:c8 K C "need" "Reader.need" GY ["self","word"]
 ka:c8 K C "need_end" "Reader.need_end" Hb ["self"]
 lV:c8 K C "take_one" "Reader.take_one" Ha ["self","allowed"]
 dS:c8 K C "take_all" "Reader.take_all" G9 ["self","allowed"]
 og:c8 K C "take_up_to" "Reader.take_up_to" He ["self","word"]
structure cO(K:Frag)(mg:Str->Option Value)(C:Addr):Prop where
 mgc:mg "Circle"=some (.ref C)
 o:ClsAt K C
 VE:aE K C "cx"
 VD:aE K C "cy"
 Xk:aE K C "r"
 wD:c8 K C "__init__" "Circle.__init__" GX ["self","cx","cy","r"]
structure cH(K:Frag)(mg:Str->Option Value)(C:Addr):Prop where
 mgc:mg "Ellipse"=some (.ref C)
 o:ClsAt K C
 EG:aE K C "middle"
 Xj:aE K C "t"
 Xl:aE K C "q"
 Xm:aE K C "p"
 Ii:aE K C "reach"
 wI:c8 K C "__init__" "Ellipse.__init__" G4 ["self","circle","matrix"]
structure gy(K:Frag)(mg:Str->Option Value)(C:Addr):Prop where
 mgc:mg "Style"=some (.ref C)
 o:ClsAt K C
 Mr:aE K C "fill"
 Mq:aE K C "rule"
 wz:c8 K C "__init__" "Style.__init__" GR ["self","fill","rule"]
structure dI(K:Frag)(mg:Str->Option Value)(C:Addr):Prop where
 mgc:mg "Outline"=some (.ref C)
 o:ClsAt K C
 qZ:aE K C "lines"
 wH:c8 K C "__init__" "Outline.__init__" G3 ["self","lines"]
structure iR(K:Frag)(mg:Str->Option Value)(C:Addr):Prop where
 mgc:mg "Pen"=some (.ref C)
 o:ClsAt K C
 qZ:aE K C "lines"
 EE:aE K C "stands"
 tK:aE K C "line_begin"
 wx:c8 K C "__init__" "Pen.__init__" GP ["self"]
 oa:c8 K C "begin_line" "Pen.begin_line" G7 ["self","place"]
 rk:c8 K C "go_straight" "Pen.go_straight" G8 ["self","place"]
 rj:c8 K C "go_curved" "Pen.go_curved" G6 ["self","told"]
structure d3(K:Frag)(mg:Str->Option Value)(C:Addr):Prop where
 mgc:mg "Window"=some (.ref C)
 o:ClsAt K C
 qX:aE K C "width"
 tJ:aE K C "row_length"
 wo:aE K C "first_row"
 tL:aE K C "behind_row"
 wC:c8 K C "__init__" "Window.__init__" GW ["self","width","first_row","behind_row"]
structure fS(K:Frag)(mg:Str->Option Value)(C:Addr):Prop where
 mgc:mg "Shape"=some (.ref C)
 o:ClsAt K C
 EI:aE K C "figure"
 n9:aE K C "matrix"
 qY:aE K C "style"
 wy:c8 K C "__init__" "Shape.__init__" GQ ["self","figure","matrix","style"]
structure c9(K:Frag)(mg:Str->Option Value)(C:Addr):Prop where
 mgc:mg "Canvas"=some (.ref C)
 o:ClsAt K C
 ED:aE K C "window"
 Bq:aE K C "colours"
 yq:aE K C "leads_to"
 wB:c8 K C "__init__" "Canvas.__init__" GV ["self","window"]
 oh:c8 K C "unpainted_from" "Canvas.unpainted_from" Hf ["self","dot"]
 rm:c8 K C "paint_span" "Canvas.paint_span" Hd ["self","span","colour"]
 rh:c8 K C "rows" "Canvas.rows" GU ["self"]
structure lF(K:Frag)(mg:Str->Option Value)(C:Addr):Prop where
 mgc:mg "Tag"=some (.ref C)
 o:ClsAt K C
 wm:aE K C "name"
 tM:aE K C "attributes"
 EJ:aE K C "closed"
 wu:c8 K C "__init__" "Tag.__init__" GO ["self","name","attributes","closed"]
structure dH(K:Frag)(mg:Str->Option Value)(C:Addr):Prop where
 mgc:mg "Picture"=some (.ref C)
 o:ClsAt K C
 qX:aE K C "width"
 EH:aE K C "height"
 EF:aE K C "shapes"
 wG:c8 K C "__init__" "Picture.__init__" G1 ["self","width","height"]
structure eG(K:Frag)(mg:Str->Option Value)(C:Addr):Prop where
 mgc:mg "Holder"=some (.ref C)
 o:ClsAt K C
 wm:aE K C "name"
 n9:aE K C "matrix"
 qY:aE K C "style"
 wA:c8 K C "__init__" "Holder.__init__" GS ["self","name","matrix","style"]
structure xl(K:Frag)(mg:Str->Option Value)(g q0 q1 q2 q3:Addr):Prop where
 at_:mg "QUARTER_TURNS"=some (.ref g)
 qt:KTu K g [.ref q0,.ref q1,.ref q2,.ref q3]
 t0:KTu K q0 [.int 1,.int 0,.int 0,.int 1,.int 0,.int 0]
 t1:KTu K q1 [.int 0,.int 1,.int (-1),.int 0,.int 0,.int 0]
 t2:KTu K q2 [.int (-1),.int 0,.int 0,.int (-1),.int 0,.int 0]
 t3:KTu K q3 [.int 0,.int (-1),.int 1,.int 0,.int 0,.int 0]
theorem Vj{K:Frag}{mg:Str->Option Value}{h:Heap}{g q0 q1 q2 q3:Addr}{o:Obj}(X:K.In h)(G:h.Ns mainGlobals mg)(e:nsIn K mainGlobals "QUARTER_TURNS"=some (some (.ref g)))
  (l:K.lookup g=some o) (c:KTu K g [.ref q0,.ref q1,.ref q2,.ref q3]) (c0:KTu K q0 [.int 1,.int 0,.int 0,.int 1,.int 0,.int 0]) (c1:KTu K q1 [.int 0,.int 1,.int (-1),.int 0,.int 0,.int 0]) (c2:KTu K q2 [.int (-1),.int 0,.int 0,.int (-1),.int 0,.int 0]) (c3:KTu K q3 [.int 0,.int (-1),.int 1,.int 0,.int 0,.int 0]):
  ∃g q0 q1 q2 q3,xl K mg g q0 q1 q2 q3:=⟨g,q0,q1,q2,q3,mg_of X G e,c,c0,c1,c2,c3⟩
theorem CB{K:Frag}{mg:Str->Option Value}{h:Heap}{x:Str}{g:Addr}{xs:List V}(X:K.In h)(G:h.Ns mainGlobals mg)(e:nsIn K mainGlobals x=some (some (.ref g)))(c:KTu K g xs):∃g,mg x=some (.ref g)/\KTu K g xs:=⟨g,mg_of X G e,c⟩
theorem dq{n:Int}{t:Tok}{xs:List V}{us:List Value}(r:Vals xs us):Vals (.int n::xs) (.int n t::us):=.cons ⟨t,rfl⟩ r
theorem jI{n:Str}{t:Tok}{xs:List V}{us:List Value}(r:Vals xs us):Vals (.str n::xs) (.str n t::us):=.cons ⟨t,rfl⟩ r
theorem ma{n:Addr}{xs:List V}{us:List Value}(r:Vals xs us):Vals (.ref n::xs) (.ref n::us):=.cons rfl r
theorem RJ{K:Frag}{mg:Str->Option Value}{h:Heap}{pr:Params}{g:Addr}{k1 k2 k3 k4 k5 k6 v1 v2 v3 v4 v5 v6:Tok}(X:K.In h)(G:h.Ns mainGlobals mg)(e:nsIn K mainGlobals "ROW_LENGTHS"=some (some (.ref g)))
  (l:K.lookup g=some {cls:=.type "dict",data:=.dict #[⟨PyData.keyHash pr "M",.str "M" k1,.int 2 v1⟩,⟨PyData.keyHash pr "L",.str "L" k2,.int 2 v2⟩,⟨PyData.keyHash pr "H",.str "H" k3,.int 1 v3⟩,⟨PyData.keyHash pr "V",.str "V" k4,.int 1 v4⟩,⟨PyData.keyHash pr "Q",.str "Q" k5,.int 4 v5⟩,⟨PyData.keyHash pr "C",.str "C" k6,.int 6 v6⟩] 6}):
  ∃g,mg "ROW_LENGTHS"=some (.ref g)/\KD K pr g [("M",2),("L",2),("H",1),("V",1),("Q",4),("C",6)]:=by
 refine⟨g,mg_of X G e,fun P w hp hw hK=>⟨[(.inr "M",.int 2 v1),(.inr "L",.int 2 v2),(.inr "H",.int 1 v3),(.inr "V",.int 1 v4),(.inr "Q",.int 4 v5),(.inr "C",.int 6 v6)],?_,_,_,_,hK g _ l,?_,rfl,?_,?_,?_⟩⟩
 .exact .cons ⟨rfl,_,rfl⟩ (.cons ⟨rfl,_,rfl⟩ (.cons ⟨rfl,_,rfl⟩ (.cons ⟨rfl,_,rfl⟩ (.cons ⟨rfl,_,rfl⟩ (.cons ⟨rfl,_,rfl⟩ .nil)))))
 .exact⟨rfl,rfl,rfl⟩
 .subst hw;intro en hen;have hm:en∈[(⟨PyData.keyHash w.params "M",.str "M" k1,.int 2 v1⟩:DictEntry),⟨PyData.keyHash w.params "L",.str "L" k2,.int 2 v2⟩,⟨PyData.keyHash w.params "H",.str "H" k3,.int 1 v3⟩,⟨PyData.keyHash w.params "V",.str "V" k4,.int 1 v4⟩,⟨PyData.keyHash w.params "Q",.str "Q" k5,.int 4 v5⟩,⟨PyData.keyHash w.params "C",.str "C" k6,.int 6 v6⟩]:=by simpa using hen
  simp only[mem_cons,not_mem_nil,or_false]at hm;rcases hm with rfl|rfl|rfl|rfl|rfl|rfl
  .exact⟨.inr "M",bC P w _ _,rfl⟩
  .exact⟨.inr "L",bC P w _ _,rfl⟩
  .exact⟨.inr "H",bC P w _ _,rfl⟩
  .exact⟨.inr "V",bC P w _ _,rfl⟩
  .exact⟨.inr "Q",bC P w _ _,rfl⟩
  .exact⟨.inr "C",bC P w _ _,rfl⟩
 .exact .cons (bC P w _ _) rfl (.cons (bC P w _ _) rfl (.cons (bC P w _ _) rfl (.cons (bC P w _ _) rfl (.cons (bC P w _ _) rfl (.cons (bC P w _ _) rfl .nil)))))
 .show([Sum.inr "M",Sum.inr "L",Sum.inr "H",Sum.inr "V",Sum.inr "Q",Sum.inr "C"]:List Key).Nodup
  decide +kernel
theorem go{P:Program}{w:World}{K:Frag}{h:Heap}{mg:Str->Option Value}{fa:Addr}(X:K.In h)(G:h.Ns mainGlobals mg)(hfa:mg "paint"=some (.ref fa))
  (D:TD K mg)
  (xc:∃C,Ct K mg "WrongText" C)
  (JE:∃C,bV K mg C)
  (JG:∃C,cO K mg C)
  (FU:∃C,cH K mg C)
  (Na:∃C,gy K mg C)
  (FT:∃C,dI K mg C)
  (WD:∃C,iR K mg C)
  (JD:∃C,d3 K mg C)
  (Nb:∃C,fS K mg C)
  (JH:∃C,c9 K mg C)
  (WC:∃C,lF K mg C)
  (FR:∃C,dH K mg C)
  (JF:∃C,eG K mg C)
  (D0:∃g,mg "UNMOVED"=some (.ref g)/\KTu K g [.int 1,.int 0,.int 0,.int 1,.int 0,.int 0])
  (F3:∃g,mg "SHAPES"=some (.ref g)/\KTu K g [.str "rect",.str "circle",.str "polygon",.str "polyline",.str "path"])
  (WM:∃g q0 q1 q2 q3,xl K mg g q0 q1 q2 q3)
  (UR:∃g,mg "ROW_LENGTHS"=some (.ref g)/\KD K w.params g [("M",2),("L",2),("H",1),("V",1),("Q",4),("C",6)])
  (i_t:∀C D,mg "Circle"=some (.ref C)->mg "Circle"=some (.ref D)->Cls K C->FY K C D true)
  (i_f:∀C D,mg "Outline"=some (.ref C)->mg "Circle"=some (.ref D)->Cls K C->FY K C D false):
  ∃fd:FuncData,(∃oc od osl,K.lookup fa=some ⟨oc,od,.func fd,osl⟩)/\(∀(s:Shared)(u0 u1:Value),K.In s.heap->BindsTo s fd ⟨[u0,u1],[]⟩ [("most",u0),("text",u1)])/\
   ∀(bZ:Heap)(c pt:Addr),fd.code=.ref c->K.In bZ->bZ.Ns mainGlobals mg->PySem.W.CodeHd bZ c pt->bZ.BuiltinsAt mg pt->eF P w K mg bZ (CXW P w (adF K "WrongText")) 14 fa fd ["most","text"] (iw K pt):=by
 obtain⟨cQ,xc⟩:=xc;obtain⟨aG,bV⟩:=JE;obtain⟨y9,zG,BV,pf,wF⟩:=bV.wF;obtain⟨zf,zK,BZ,sH,jc⟩:=bV.jc;obtain⟨zm,zR,B6,ph,ig⟩:=bV.ig;obtain⟨y8,zF,BU,ni,gL⟩:=bV.gL;obtain⟨y6,zE,BS,lA,gd⟩:=bV.gd;obtain⟨zl,zQ,B5,uJ,ka⟩:=bV.ka;obtain⟨zk,zP,B4,Af,lV⟩:=bV.lV;obtain⟨zj,zO,B3,gO,dS⟩:=bV.dS;obtain⟨zp,zT,B8,DK,og⟩:=bV.og;obtain⟨ck,cO⟩:=JG;obtain⟨yZ,zD,BR,JT,wD⟩:=cO.wD;obtain⟨bN,cH⟩:=FU;obtain⟨ze,zJ,BY,JV,wI⟩:=cH.wI;obtain⟨ei,gy⟩:=Na;obtain⟨yU,zy,BM,DH,wz⟩:=gy.wz;obtain⟨dD,dI⟩:=FT;obtain⟨zc,zI,BX,Ae,wH⟩:=dI.wH;obtain⟨cN,iR⟩:=WD;obtain⟨yS,zw,BK,JO,wx⟩:=iR.wx;obtain⟨zh,zM,B1,DJ,oa⟩:=iR.oa;obtain⟨zi,zN,B2,JX,rk⟩:=iR.rk;obtain⟨zg,zL,B0,JW,rj⟩:=iR.rj;obtain⟨cM,d3⟩:=JD;obtain⟨yY,zC,BQ,JS,wC⟩:=d3.wC;obtain⟨fm,fS⟩:=Nb;obtain⟨yT,zx,BL,JP,wy⟩:=fS.wy;obtain⟨cn,c9⟩:=JH;obtain⟨yX,zB,BP,JR,wB⟩:=c9.wB;obtain⟨zq,zU,B9,DL,oh⟩:=c9.oh;obtain⟨zo,zS,B7,JY,rm⟩:=c9.rm;obtain⟨yW,zA,BO,JQ,rh⟩:=c9.rh;obtain⟨fk,lF⟩:=WC;obtain⟨yR,zu,BJ,JN,wu⟩:=lF.wu;obtain⟨bb,dH⟩:=FR;obtain⟨za,zH,BW,JU,wG⟩:=dH.wG;obtain⟨cj,eG⟩:=JF;obtain⟨yV,zz,BN,DI,wA⟩:=eG.wA;obtain⟨iI,l6,lZ⟩:=D0;obtain⟨mW,iK,iG⟩:=F3;obtain⟨YB,q0,q1,q2,q3,xl⟩:=WM;obtain⟨Wq,UG,BC⟩:=UR;have e:adF K "paint"=fa:=Value.ref.inj (Option.some.inj (D.pJ.mg.symm.trans hfa));subst e;have T:Txt K mg ⟨w.params,cQ,aG,ck,bN,ei,dD,cN,cM,fm,cn,fk,bb,cj,y9,zG,zf,zK,zm,zR,y8,zF,y6,zE,zl,zQ,zk,zP,zj,zO,zp,zT,yZ,zD,ze,zJ,yU,zy,zc,zI,yS,zw,zh,zM,zi,zN,zg,zL,yY,zC,yT,zx,yX,zB,zq,zU,zo,zS,yW,zA,yR,zu,za,zH,yV,zz,iI,YB,Wq,mW,q0,q1,q2,q3⟩:=⟨D,xc,bV.o.1,bV.mgc,⟨bV.o.2.1,wF.at_,wF.fn,bV.o.2.2⟩,bV.Ih,bV.Ij,jc,ig,gL,gd,ka,lV,dS,og,cO.o.1,cO.mgc,⟨cO.o.2.1,wD.at_,wD.fn,cO.o.2.2⟩,cO.VE,cO.VD,cO.Xk,cH.o.1,cH.mgc,⟨cH.o.2.1,wI.at_,wI.fn,cH.o.2.2⟩,cH.EG,cH.Xj,cH.Xl,cH.Xm,cH.Ii,gy.o.1,gy.mgc,⟨gy.o.2.1,wz.at_,wz.fn,gy.o.2.2⟩,gy.Mr,gy.Mq,dI.o.1,dI.mgc,⟨dI.o.2.1,wH.at_,wH.fn,dI.o.2.2⟩,dI.qZ,iR.o.1,iR.mgc,⟨iR.o.2.1,wx.at_,wx.fn,iR.o.2.2⟩,iR.qZ,iR.EE,iR.tK,oa,rk,rj,d3.o.1,d3.mgc,⟨d3.o.2.1,wC.at_,wC.fn,d3.o.2.2⟩,d3.qX,d3.tJ,d3.wo,d3.tL,fS.o.1,fS.mgc,⟨fS.o.2.1,wy.at_,wy.fn,fS.o.2.2⟩,fS.EI,fS.n9,fS.qY,c9.o.1,c9.mgc,⟨c9.o.2.1,wB.at_,wB.fn,c9.o.2.2⟩,c9.ED,c9.Bq,c9.yq,oh,rm,rh,lF.o.1,lF.mgc,⟨lF.o.2.1,wu.at_,wu.fn,lF.o.2.2⟩,lF.wm,lF.tM,lF.EJ,dH.o.1,dH.mgc,⟨dH.o.2.1,wG.at_,wG.fn,dH.o.2.2⟩,dH.qX,dH.EH,dH.EF,eG.o.1,eG.mgc,⟨eG.o.2.1,wA.at_,wA.fn,eG.o.2.2⟩,eG.wm,eG.n9,eG.qY,BV,pf,BZ,sH,B6,ph,BU,ni,BS,lA,B5,uJ,B4,Af,B3,gO,B8,DK,BR,JT,BY,JV,BM,DH,BX,Ae,BK,JO,B1,DJ,B2,JX,B0,JW,BQ,JS,BL,JP,BP,JR,B9,DL,B7,JY,BO,JQ,BJ,JN,BW,JU,BN,DI,l6,xl.at_,UG,iK,lZ,xl.qt,xl.t0,xl.t1,xl.t2,xl.t3,iG,BC,i_t _ _ cO.mgc cO.mgc cO.o.1,i_f _ _ dI.mgc cO.mgc dI.o.1⟩;have hc:adF K "WrongText"=cQ:=by
  unfold adF;rw[xc.ns]
 rw[hc];obtain⟨oc,od,kV,doc,pm,an,cdv,ct,osl,hfd,lk,hcd⟩:=D.pJ.fn.ex;exact⟨adD K "paint",⟨oc,od,osl,lk⟩,fun s u0 u1 hK=>D.pJ.b s [u0,u1] hK rfl,fun bZ c pt g0 _ _ hC hB=>UM T rfl g0 hC hB⟩
theorem JI{ns:List Int}(h:∀z∈ns,0<=z/\z<=255):ns=(ns.map Int.toNat).map (fun(c:Nat)=>(c:Int))/\Byt (ns.map Int.toNat):=by
 refine⟨?_,?_⟩
 .rw[map_map]
  conv=>lhs;rw[<-map_id ns]
  refine map_congr_left fun z hz=>?_
  have:=h z hz;show z=((z.toNat:Nat):Int);omega
 .intro c hc;obtain⟨z,hz,rfl⟩:=mem_map.mp hc;have:=h z hz;omega
theorem Ex(k:Int)(b:B):PySg35.paint k (b.map fun(c:Nat)=>(c:Int))=if k<0 then [-1]else kC (jm k) b:=by
 have e:Sg35Neutral.nats (b.map fun(c:Nat)=>(c:Int))=b:=by
  unfold Sg35Neutral.nats;rw[map_map]
  conv=>rhs;rw[<-map_id b]
  rfl
 have hd:does (.paint b b.length k)=(if Sg35.within (b.length:Int)=false\/k<0 then says (-1)else match pic b with
   |none=>says (-2)
   |some p=>if k<(p.width*p.height:Nat)then says (-3)else⟨(p.width*p.height:Nat),p.places.map fun z=>p.dot z.1 z.2⟩):=by
  rw[<-Sg35.qK];rfl
 show(does (.paint (Sg35Neutral.nats (b.map fun(c:Nat)=>(c:Int))) (b.map fun(c:Nat)=>(c:Int)).length k)).value::Sg35Neutral.ints (does (.paint (Sg35Neutral.nats (b.map fun(c:Nat)=>(c:Int))) (b.map fun(c:Nat)=>(c:Int)).length k)).out=_;rw[e,length_map,hd];unfold kC;by_cases h0:k<0
 .rw[if_pos h0,if_pos (.inr h0)];rfl
 rw[if_neg h0];by_cases hl:65536<b.length
 .rw[if_pos hl,if_pos (.inl (by unfold Sg35.within SIZE;simp;omega))];rfl
 .rw[if_neg hl,if_neg (by unfold Sg35.within SIZE;simp;omega)];cases pic b with
  |none=>rfl
  |some pc=>
   unfold jm;dsimp only;by_cases h1:k<(pc.width*pc.height:Nat)
   .rw[if_pos h1,if_pos h1];rfl
   .rw[if_neg h1,if_neg h1,Sg35.M5];rfl
theorem walk{q:Program}{loose:List Str}{XP:(Str->Option Value)->Heap->Prop}{YP:World->Heap->Prop}{d:DefRec}{K:Params->Frag}(hf:(recsOf q).find? (fun e=>e.name==d.name)=some d)
  (hY:∀(w:World)(h:Heap),YP w h->(K w.params).In h) (hT:∀w:World,PySem.W.noTabs (K w.params)=true)
  (F:∀(w:World)(mg:Str->Option Value)(fa:Addr)(h:Heap),(K w.params).In h->h.Ns mainGlobals mg->mg d.name=some (.ref fa)->
   ∃fd:FuncData,(∃oc od osl,(K w.params).lookup fa=some ⟨oc,od,.func fd,osl⟩)/\(∀(s:Shared)(u0 u1:Value),(K w.params).In s.heap->BindsTo s fd ⟨[u0,u1],[]⟩ [("most",u0),("text",u1)])/\
   ∀(bZ:Heap)(c pt:Addr),fd.code=.ref c->(K w.params).In bZ->bZ.Ns mainGlobals mg->PySem.W.CodeHd bZ c pt->bZ.BuiltinsAt mg pt->eF PySem.Challenge.rw_shapedots_s02_paint.prog w (K w.params) mg bZ (CXW PySem.Challenge.rw_shapedots_s02_paint.prog w (adF (K w.params) "WrongText")) 14 fa fd ["most","text"] (iw (K w.params) pt)):
  WalkOS q loose XP YP PySem.Challenge.rw_shapedots_s02_paint d [] (fun f vs=>PySem.call f vs):=
 L2.AJ (r:=PySem.Challenge.rw_shapedots_s02_paint) (n:=65600) (lo:=0) (hi:=255) (lo1:=-2147483648) (hi1:=900000) (k:=14) (x:="most") (y:="text") (CX:=fun w=>CXW PySem.Challenge.rw_shapedots_s02_paint.prog w (adF (K w.params) "WrongText")) (sp:=fun w=>iw (K w.params)) PySem.Challenge.as_shapedots_s02_paint rfl (by decide) ⟨rfl,by decide,by decide⟩ hf hY hT F
  (fun w H pt l z ns hl hr hP hS=>by
   obtain⟨e,hb⟩:=JI hr;generalize ns.map Int.toNat=b at e hb;subst e;rw[map_map]at hS;rw[length_map]at hl;refine⟨z,l,b,rfl,hP,hS,hb,hl,fun u H' hu=>⟨u,rfl,?_⟩⟩;show H' u=some (.lst ((PySg35.paint z (b.map fun(c:Nat)=>(c:Int))).map V.int));rw[Ex]
   exact hu)
  (fun w H s e s' hc=>by
   obtain⟨ea,t,B,H',_,_,hE⟩:=hc
   exact hE)
end Pg
namespace PySem.W.Fast
def tw11297666980999170242:=0
def tw2853233966211861414:=0
def tw17297652691574909235:=0
def tw5952071258012920706:=0
def tw2950441932078462065:=0
def tw11167930268166472585:=0
def tw965308820538659338:=0
def tw4045605572772116486:=0
def tw7648673695209058513:=0
def tw243623720614007569:=0
def tw11623790150701927325:=0
def tw12502246845801583348:=0
def tw10112538956439727420:=0
def tw6591022436145335915:=0
def tw16988016190550259505:=0
def tw16236849757092845187:=0
def tw9279670233791793345:=0
def tw8507651765603641083:=0
def tw3249863989805562617:=0
def tw2239410624955630344:=0
def tw8661456778457384709:=0
def tw5880644746977388944:=0
def tw18345515791704128351:=0
def tw6030445048482209732:=0
def tw7435046584196906941:=0
def tw9644313143766240316:=0
def tw7085228521376119427:=0
def tw12333498361590136947:=0
def tw16588813310600278623:=0
def tw955047083016701473:=0
def tw7155006276339043249:=0
def tw12826399561546290327:=0
def tw8702357742682522622:=0
def tw4276322811003812604:=0
def tw15448275941157475533:=0
def tw14469636638862462496:=0
def tw10087225673212216882:=0
def tw5489278004685181091:=0
def tw9021246959504034894:=0
def tw6587239739691627928:=0
def tw5889686391557512115:=0
def tw1185508480220298615:=0
def tw7827749294707715726:=0
def tw12830416435221805784:=0
def tw7783759155695822945:=0
def tw9897687703607157587:=0
def tw16424626464532139908:=0
def tw8070705929621530280:=0
def tw14330313527874846629:=0
def tw8661527348951612425:=0
def tw14858361071039501789:=0
def tw9277237462685434056:=0
def tw698150466647459029:=0
def tw1384708250324666161:=0
def tw17295547041797071524:=0
def tw646460248413002750:=0
def tw5028761985110988885:=0
def tw7896142929795418347:=0
def tw9330627298025660691:=0
def tw3331988741640445134:=0
def tw1476880507869866766:=0
def tw13558587648961742190:=0
def tw9763336155740852509:=0
def tw8001309357067159920:=0
def tw2742972981457793247:=0
def tw13838260973780504387:=0
def tw25378864517958448:=0
def tw13541847226610086217:=0
def tw7665165852643890632:=0
def tw4748977311007277152:=0
def tw2384616955943426625:=0
def tw8524178328278378178:=0
def tw8398992140271118146:=0
def tw8181430348272945941:=0
def tw11192319395811998460:=0
def tw6471113373965430440:=0
def tw16634174644925404774:=0
def tw17403023208925885967:=0
def tw16961480139651444869:=0
def tw13508300640984063661:=0
def tw3494147894501314554:=0
def tw11919692508650949256:=0
def tw2382562040248825866:=0
def tw2558972696277795780:=0
def tw5174300049928784440:=0
def tw15847427850558315536:=0
def tw17658274393809760567:=0
def tw730512010857163968:=0
def tw10841544014866138540:=0
def tw5408812603354738150:=0
def tw3630622028771765783:=0
def tw4425679014044437330:=0
def tw9302629001030831572:=0
def tw532125291159036987:=0
def tw14001382530860387956:=0
def tw7782973490414196785:=0
def tw9788311716755543201:=0
def tw3690214631011017786:=0
def tw1339720429970435744:=0
def tw9827258790850599510:=0
def tw1463345430484499797:=0
def tw5991622296929844724:=0
def tw7458768900149455090:=0
def tw7946501525659527019:=0
def tw8244256884853315458:=0
def tw3325013217057867109:=0
def tw6708810457322862732:=0
def tw8949717584530713203:=0
def tw10747964632277502560:=0
def tw11119362654022700791:=0
def tw17154937084885336636:=0
def tw11835175474525172990:=0
def tw14884420742373857925:=0
def tw1949628973920504522:=0
def tw14379530332566452255:=0
def tw4591070342509749042:=0
def tw3765880474084086047:=0
def tw11996530966457396320:=0
def tw12262510747423158508:=0
def tw17258129459005885399:=0
def tw5111683652673745061:=0
def tw13663421098074480686:=0
def tw5344470353528209212:=0
def tw2403731925141175473:=0
def tw4720022484828407100:=0
def tw8256202423397769849:=0
def tw12985324221194594067:=0
def tw1306946211731914581:=0
def tw16676224833506795855:=0
def tw14586042665092131356:=0
def tw5472199695312176468:=0
def tw12831016547637770116:=0
def tw16013794908313278087:=0
def tw9773616096904581202:=0
def tw6229270869446250113:=0
def tw7893970042769544594:=0
def tw11899026858075883957:=0
def tw2994832512979979706:=0
def tw1287017488534971726:=0
def tw2882013308515398157:=0
def tw4055146453018749450:=0
def tw1549817336511773294:=0
def tw8578415420998820622:=0
def tw1968609400576264234:=0
def tw9339365325240240677:=0
def tw8417998928546913296:=0
def tw9010709063458004094:=0
def tw10939560348071001148:=0
def tw7727259927678783549:=0
def tw7796337335879666451:=0
def tw1062674312551257669:=0
def tw4372224045405892591:=0
def tw2377095723182148585:=0
def tw11697346374490346202:=0
def tw3126804934952069399:=0
def tw5502667187739289330:=0
def tw10469297631400007745:=0
def tw8165883164171980536:=0
def tw13555724861413250266:=0
def tw17273901666248025583:=0
def tw11631580847067531365:=0
def tw2379817624774219727:=0
def tw12193685360012484624:=0
def tw10905897616044618435:=0
def tw8691748300799796734:=0
def tw2687605194847263091:=0
def tw1157735547766524509:=0
def tw3812992066012468939:=0
def tw2294136708167488680:=0
def tw15250277208558687957:=0
def tw7594930193966085335:=0
def tw10771414878399175180:=0
def tw13024756387194414082:=0
def tw15820399954985408487:=0
def tw11921353315539603834:=0
def tw5904602203278977096:=0
def tw12382955718323586282:=0
def tw8825719308296117713:=0
def tw10078797301161869218:=0
def tw4305569793067026388:=0
def tw14810318745208935710:=0
def tw17616145868018133526:=0
def tw16161644143139454458:=0
def tw5834879756537219823:=0
def tw624524145869933227:=0
def tw1141908786337393296:=0
def tw330019812871931908:=0
def tw10174646913144384917:=0
def tw15112157329466733577:=0
def tw16128255748525750684:=0
def tw17362562145442960454:=0
def tw8596246581388579114:=0
def tw17807415359179235490:=0
def tw1613366431141614402:=0
def tw1436675220475989085:=0
def tw5951708817922679476:=0
def tw5338040070635139372:=0
def tw3274471374723577997:=0
def tw15717194287911287381:=0
def tw8902789480814449492:=0
def tw11063098514963511939:=0
def tw5816447197454079200:=0
def tw15623505417579061042:=0
def tw15793156139700441780:=0
def tw7515620605554540861:=0
def tw6750592912961423451:=0
def tw4743978521004035600:=0
def tw18429679347215372009:=0
def tw15444797466469173065:=0
def tw12763245977386653830:=0
def tw262640150663149024:=0
def tw7913983216720954346:=0
def tw15515629367558115399:=0
def tw8473110164419337549:=0
def tw346050344903701991:=0
def tw6536706768837619543:=0
def tw9815478059152234902:=0
def tw10182819029691803090:=0
def tw15477171892112262326:=0
def tw8256983566585180380:=0
def tw13919363113587293035:=0
def tw1769176372794634934:=0
def tw15112981523758555535:=0
def tw13203756210631234594:=0
def tw5293897270783994591:=0
def tw14011984056598951776:=0
def tw17024394116739910988:=0
def tw14230207499044543707:=0
def tw3579147326705435035:=0
def tw1191209138781666374:=0
def tw2768020136788329935:=0
def tw18195198376728043115:=0
def tw1614347683570179489:=0
def tw10318924937435426105:=0
def tw1071959952642109469:=0
def tw2993222707290305065:=0
def tw4367237847439002630:=0
def tw17685080651894779831:=0
def tw11047318720170834558:=0
def tw12253762411672747729:=0
def tw367981933513664788:=0
def tw8851811134984548928:=0
def tw17053894412076610175:=0
def tw4087797843058493739:=0
def tw3090998709862124629:=0
def tw12612505166006729246:=0
def tw3113055064261100526:=0
def tw3495867496184315633:=0
def tw16468308916373149622:=0
def tw14231410368326112610:=0
def tw338101100223424861:=0
def tw16229641586423234007:=0
def tw16699214195645550455:=0
def tw7481022423867702108:=0
def tw1870782837726131883:=0
def tw4217836754193027973:=0
def tw10326568642075597272:=0
def tw15983489857158707084:=0
def tw16170722351337878226:=0
def tw13132559841447044702:=0
def tw5718200420747589109:=0
def tw2041184059083878917:=0
def tw4043613601949149131:=0
def tw9000254869818857273:=0
def tw17068774114737373415:=0
def tw16372318905640338804:=0
def tw11179189995583401889:=0
def tw12128001945331634219:=0
def tw6338262240011849990:=0
def tw4058100250438444142:=0
def tw17751770388879829133:=0
def tw1546151705524319799:=0
def tw15090532733112473730:=0
def tw7358480000783817235:=0
def tw15956184170523544193:=0
def tw4895286260550960483:=0
def tw3663810199129065576:=0
def tw7474564868019755090:=0
def tw7031898177442190912:=0
def tw5918464124904602038:=0
def tw4744531044668059991:=0
def tw15698411163206007050:=0
def tw14866322164201057533:=0
def tw9613495574754513941:=0
def tw16330440531653384628:=0
def tw2670579408238725715:=0
def tw8999861245707949963:=0
def tw8271781398106261655:=0
def tw8002182130843715399:=0
def tw15856245196031431330:=0
def tw2928261868581370397:=0
def tw15334864796826630325:=0
def tw10152996514366774364:=0
def tw142366370450492461:=0
def tw5213016220242422053:=0
def tw10808318559829266719:=0
def tw7693536278119013184:=0
def tw14906214507300888630:=0
def tw4208970707403790262:=0
def tw15388062738601354382:=0
def tw15569800797498925085:=0
def tw18026628012029245681:=0
def tw13398562534373726095:=0
def tw5430902646920155005:=0
def tw13394707673095979200:=0
def tw11291392130297853196:=0
def tw6420476238500134133:=0
def tw5817838423708312687:=0
def tw9666359545385658592:=0
def tw12125416049963456527:=0
def tw8799899589119704651:=0
def tw11124747102363996004:=0
def tw1866050048926887092:=0
def tw428115327660701456:=0
def tw17554950732124432406:=0
def tw16516530319483066713:=0
def tw14443493065195667540:=0
def tw1909024700280543535:=0
def tw7597924576956457308:=0
def tw16292941161215207724:=0
def tw384448178100498370:=0
def tw3766498564417866498:=0
def tw14796863654757117025:=0
def tw5977858459938862193:=0
def tw2053428881582802596:=0
def tw8857816388173182467:=0
def tw12872193816729920288:=0
def tw6393137423067576434:=0
def tw1371119771154278891:=0
def tw7151448181487947856:=0
def tw5927590031936817083:=0
def tw17862058760475007443:=0
def tw1325967924960494931:=0
def tw10945651385590603313:=0
def tw6913944334001752786:=0
def tw6163597094389308809:=0
def tw6258187619259243272:=0
def tw1301779403633123499:=0
def tw10240681849833285956:=0
def tw8092885870789545947:=0
def tw17318259640762425919:=0
def tw13462544281301544367:=0
end PySem.W.Fast
local macro_rules|`(tactic| walk_at "d")=>`(tactic| (apply Pg.UB $(Lean.mkIdent `KX) $(Lean.mkIdent `G);(iterate 4 k_is);first|(exact fun _ _ _ _ _ _=>Pg.bn1 fun _=>rfl)|(exact fun _ _ _ _ _ _=>Pg.bn2 fun _ _=>rfl)|(exact fun _ _ _ _ _ _=>Pg.bn3 fun _ _ _=>rfl)|(exact fun _ _ _ _ _ _=>Pg.bn4 fun _ _ _ _=>rfl)))
local macro_rules|`(tactic| walk_at "m")=>`(tactic| (apply Pg.Tt;(iterate 5 k_is);first|(exact fun _ _ _ _ _ _=>Pg.bn1 fun _=>rfl)|(exact fun _ _ _ _ _ _=>Pg.bn2 fun _ _=>rfl)|(exact fun _ _ _ _ _ _=>Pg.bn3 fun _ _ _=>rfl)|(exact fun _ _ _ _ _ _=>Pg.bn4 fun _ _ _ _=>rfl)))
local macro_rules|`(tactic| walk_at "g")=>`(tactic| first|(apply Pg.gl_int $(Lean.mkIdent `KX) $(Lean.mkIdent `G);k_is)|(apply Pg.gl_str $(Lean.mkIdent `KX) $(Lean.mkIdent `G);k_is))
local macro_rules|`(tactic| walk_at "c")=>`(tactic| (apply Exists.intro;constructor;(apply mg_of $(Lean.mkIdent `KX) $(Lean.mkIdent `G);k_is);(apply Pg.UH;iterate 6 k_is);(repeat (apply Pg.VC;k_is));repeat walk_at "m"))
open PySem PySem.W PyProof.Rows
set_option maxHeartbeats 0 in
theorem PySem.Challenge.cw_shapedots_s02_paint_holds : PySem.Challenge.rw_shapedots_s02_paint.Holds := by
 w_on;k_headS;(case hw=>exact⟨[.int 0,.list []],by decide +kernel,by decide +kernel⟩)
 k_fillS
 refine Pg.walk rfl (fun w h Y=>kIn_of Y) ?T ?F
 case T=>exact fun w=>by kernel_rfl
 case F=>
  intro w mg fa h KX G hmg;refine' Pg.go KX G hmg (Pg.TD.mk ..) ..
  iterate 59 walk_at "d"
  iterate 30 walk_at "g"
  iterate 14 (apply PySem.W.mg_none_of KX G;k_is)
  (apply Pg.UQ;k_is;k_exc)
  iterate 12 walk_at "c"
  (apply Pg.CB KX G;k_is;apply Pg.vd;k_is;rfl;rfl;decide;exact(Pg.dq (Pg.dq (Pg.dq (Pg.dq (Pg.dq (Pg.dq .nil)))))))
  (apply Pg.CB KX G;k_is;apply Pg.vd;k_is;rfl;rfl;decide;exact(Pg.jI (Pg.jI (Pg.jI (Pg.jI (Pg.jI .nil))))))
  (apply Pg.Vj KX G;k_is;k_is;(apply Pg.vd;k_is;rfl;rfl;decide;exact(Pg.ma (Pg.ma (Pg.ma (Pg.ma .nil)))));iterate 4 (apply Pg.vd;k_is;rfl;rfl;decide;exact(Pg.dq (Pg.dq (Pg.dq (Pg.dq (Pg.dq (Pg.dq .nil))))))))
  (apply Pg.RJ KX G;k_is;k_is)
  iterate 2 (apply Pg.TV KX G;(iterate 6 k_is);kit_is)
