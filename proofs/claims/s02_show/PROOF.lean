import PyProof.Rows.All
import Wide.All
import OpenK.AllK
import Wide.FinOn
import PyProof.EqAt
import PyProof.EqKinds
import PyProof.TupleCall
import KE.BitLaws
import Open.SpecLaws
import KE.OsHead
import KE.OsGo
import KE.IntBitsLaws
import PySem.Challenge.RW_numberpictures_s02_show
set_option Elab.async false
set_option linter.all false
set_option maxRecDepth 100000
set_option maxHeartbeats 0
open PySem.W (InitBack Looks WRecords any_some bind_fn callWith_K cellsFrom_some codeIn codeRec_of emptyDict enter_call eq_bytes excIn findIn findObj_own fnOf funFrames_hide get_value handedIn hasDictIn hideAll hideAll_get hideAll_none hideAll_size instObj isFn isNs_of_in keepIn layableW_iff length_le_weightAllW lookIn looks_clsIn looks_findIn make_core makesIn makes_of methodObj mg_none_of mg_of ne_bytes nsIn nsMap_none_of_in of_hideAll os_pre_some osa_open plainGet plainGet_of plainOver set_plain tail_of_in takerIn typeIn view)
local macro_rules|`(())=>`(by first|decide+kernel|lia|decide)
local macro_rules|`(∅)=>`(by first|exact .inl rfl|exact .inr rfl|exact .inr (.inl rfl)|exact .inr (.inr rfl)|assumption|(intro _ _ _ _ h;cases h;subst_vars;rfl))
noncomputable section
abbrev aa:=@if_neg
abbrev ah:=@if_pos
abbrev aj:=@of_decide_eq_true
abbrev ak:=@decide_eq_true
abbrev ao:=@decide_eq_false
abbrev aq:=@decide_eq_true_iff
abbrev au:=@decide_eq_decide
abbrev az:=@List.length_map
abbrev aA:=@List.mem_cons_of_mem
abbrev aB:=@List.mem_cons_self
abbrev aC:=@List.length_append
abbrev aD:=@List.getElem?_eq_some_iff
abbrev aE:=@Bool.and_eq_true
abbrev aF:=@List.takeWhile_cons
abbrev aG:=@Option.map_eq_some_iff
abbrev aH:=@Option.some.inj
abbrev aI:=@Nat.le_refl
abbrev aJ:=@List.filterMap_cons
abbrev aK:=@List.length_cons
abbrev aN:=@List.mem_cons
abbrev aO:=@Option.bind_eq_some_iff
abbrev aP:=@Nat.zero_le
abbrev aQ:=@List.length_drop
abbrev aR:=@List.getElem?_map
abbrev aT:=@List.takeWhile_prefix
abbrev aU:=@List.append_nil
abbrev aV:=@Nat.le_trans
abbrev aW:=@List.length_take
abbrev aX:=@List.map_cons
abbrev aY:=@Bool.true_and
abbrev aZ:=@Bool.false_and
abbrev a_:=@Bool.false_ne_true
abbrev bf:=@List.map_append
abbrev bg:=@List.all_eq_true
abbrev bh:=@Nat.lt_trans
abbrev bq:=@List.take_of_length_le
abbrev br:=@List.getElem?_eq_getElem
abbrev bu:=@List.all_cons
abbrev bw:=@List.append_assoc
abbrev bx:=@List.mem_of_getElem?
abbrev bz:=@List.drop_drop
abbrev bA:=@Nat.lt_of_lt_of_le
abbrev bB:=@Nat.lt_of_le_of_lt
abbrev bC:=@Bool.eq_iff_iff
abbrev bD:=@List.mem_append_right
abbrev bE:=@List.mem_append_left
abbrev bF:=@List.length_reverse
abbrev bG:=@List.eq_nil_of_length_eq_zero
abbrev bH:=@List.map_drop
abbrev bI:=@List.map_take
abbrev bJ:=@List.mem_map
abbrev bK:=@List.cons_append
abbrev bL:=@Nat.pow_le_pow_right
abbrev bM:=@List.drop_of_length_le
abbrev bN:=@List.getElem?_append_right
abbrev bO:=@List.takeWhile_append_dropWhile
abbrev bQ:=@List.size_toArray
abbrev bR:=@Array.length_toList
abbrev bS:=@List.mem_filter
abbrev bT:=@List.map_map
abbrev bU:=@List.dropWhile_cons
abbrev bV:=@List.filterMap_append
abbrev bW:=@List.eq_nil_or_concat
abbrev bX:=@List.concat_eq_append
abbrev bY:=@List.prefix_iff_eq_take
abbrev bZ:=@Int.toNat_natCast
abbrev b5:=@Nat.ne_of_lt
abbrev b6:=@PySem.W.Frag
abbrev b7:=@PySem.F.plainAttrs_list
abbrev b8:=@PySem.wpAny_bind
abbrev b9:=@PySem.wpAny_pure
abbrev b_:=@PySem.Heap.get?_push_of_some
abbrev cj:=@PySem.Heap.lt_size
abbrev cu:=@PySem.Heap.get?_push_size
abbrev cy:=@Prod.mk.inj
abbrev cz:=@PySem.mem_of_lookup
abbrev cA:=@PySem.PassesOwn.never
abbrev cB:=@List.reverse_append
abbrev cC:=@List.map_congr_left
abbrev cD:=@List.nil_append
abbrev cE:=@UInt8.ofNat_toNat
abbrev cG:=@Bool.and_eq_true_iff
abbrev cH:=@Ne.symm
abbrev cI:=@congrArg
abbrev cJ:=@absurd
abbrev cK:=@PySem.F.slot_list_append
abbrev cM:=@PySem.F.type_list_append
abbrev cN:=@PySem.F.slot_list_count
abbrev cO:=@PySem.F.type_list_count
abbrev cP:=@PySem.F.slot_list_extend
abbrev cQ:=@PySem.F.type_list_extend
namespace PySem.Challenge
def Oq:PySem.Challenge.rw_numberpictures_s02_show.wellSaid=true:=()
def aI7:PySem.Challenge.rw_numberpictures_s02_show.prog.bare:=⟨rfl,rfl,rfl,rfl,rfl,()⟩
end PySem.Challenge
namespace L2
open PySem PySem.Spec PyProof.Rows
abbrev Key:=Sum Int Str
def qx:Key->Value->Bool
 | .inl k,v=>Value.isInt k v
 | .inr x,v=>Value.isStrOf x v
def Gv(w:World):Key->Int
 | .inl k=>hashInt k
 | .inr x=>hashStr w x
def pZ:∀{k:Key} {v:Value},qx k v=true->(∃i t,k=Sum.inl i/\v=Value.int i t)\/(∃x t,k=Sum.inr x/\v=Value.str x t)
 | .inl i,v,h=>by
  obtain⟨t,e⟩:=Value.isInt_shape (k:=i) (v:=v) h;exact .inl ⟨i,t,rfl,e⟩
 | .inr x,v,h=>by
  obtain⟨t,e⟩:=Value.isStrOf_shape (x:=x) (v:=v) h;exact .inr ⟨x,t,rfl,e⟩
def Zd(i:Int)(t:Tok):qx (.inl i) (.int i t)=true:=by simp[qx,Value.isInt]
def Zc(x:Str)(t:Tok):qx (.inr x) (.str x t)=true:=by simp[qx,Value.isStrOf]
def aA8(a b:Int):decide ((Sum.inl a:Key)=Sum.inl b)=(a==b):=by
 by_cases e:a=b
 .subst e;simp
 .have h:¬(Sum.inl a:Key)=Sum.inl b:=λq=>e (Sum.inl.inj q);rw[ao h];exact(beq_eq_false_iff_ne.mpr e).symm
def aA5(a b:Str):decide ((Sum.inr a:Key)=Sum.inr b)=decide (a=b):=by
 by_cases e:a=b
 .subst e;simp
 .have h:¬(Sum.inr a:Key)=Sum.inr b:=λq=>e (Sum.inr.inj q);rw[ao h,ao e]
def aA7(a:Int)(b:Str):decide ((Sum.inl a:Key)=Sum.inr b)=false:=ao (λq=>nomatch q)
def aA6(a:Str)(b:Int):decide ((Sum.inr a:Key)=Sum.inl b)=false:=ao (λq=>nomatch q)
def qg(prog:Program)(w:World):PySem.KeyKind prog w Key where
 is:=qx
 hash:=Gv w
 inj:=λv a b ha hb=>by
  rcases pZ ha with⟨i,t,rfl,rfl⟩|⟨x,t,rfl,rfl⟩
  .rcases pZ hb with⟨j,u,rfl,e⟩|⟨y,u,rfl,e⟩
   .injection e with e1 _;rw[e1]
   .exact nomatch e
  .rcases pZ hb with⟨j,u,rfl,e⟩|⟨y,u,rfl,e⟩
   .exact nomatch e
   .injection e with e1 _;rw[e1]
 byValue:=λk v h=>by
  rcases pZ h with⟨i,t,rfl,rfl⟩|⟨x,t,rfl,rfl⟩<;>rfl
 pyHash:=λhv h=>by
  rcases pZ hv with⟨i,t,rfl,rfl⟩|⟨x,t,rfl,rfl⟩
  .exact wpAny_pyHash_int h
  .exact wpAny_pyHash_str h
 eqBool:=λhu hv h=>by
  rcases pZ hu with⟨i,t,rfl,rfl⟩|⟨x,t,rfl,rfl⟩
  .rcases pZ hv with⟨j,u,rfl,rfl⟩|⟨y,u,rfl,rfl⟩
   .rw[aA8]at h;exact wpAny_eqBool_int h
   .rw[aA7]at h;exact SeqAt.EqAt.int_str i t y u _ _ _ _ h
  .rcases pZ hv with⟨j,u,rfl,rfl⟩|⟨y,u,rfl,rfl⟩
   .rw[aA6]at h;exact SeqAt.EqAt.str_int x t j u _ _ _ _ h
   .rw[aA5]at h;exact wpAny_eqBool_str h
 «strs»:=λk x t v h=>by
  rcases pZ h with⟨i,u,rfl,e⟩|⟨y,u,rfl,e⟩
  .exact nomatch e
  .injection e with e1 _
   subst e1;cases v<;>rfl
def Xo(prog:Program)(w:World)(i:Int)(t:Tok):(qg prog w).is (.inl i) (.int i t)=true:=Zd i t
def Xn(prog:Program)(w:World)(x:Str)(t:Tok):(qg prog w).is (.inr x) (.str x t)=true:=Zc x t
inductive V where
 |dI|bl (b:Bool)|int (i:Int)|str (x:Str)|kJ (b:Array UInt8)|flt (b:UInt64)|ref (a:Addr)|ty (n:String)
 deriving DecidableEq
def RelV:V->Value->Prop
 | .dI,u=>u=Value.none
 | .bl b,u=>u=Value.bool b
 | .int i,u=>∃t,u=Value.int i t
 | .str x,u=>∃t,u=Value.str x t
 | .kJ b,u=>∃t,u=Value.bytes b t
 | .flt b,u=>∃t,u=Value.float b t
 | .ref a,u=>u=Value.ref a
 | .ty n,u=>u=Value.type n
abbrev Vals:List V->List Value->Prop:=Paired RelV
theorem Vals.length{xs:List V}{us:List Value}(r:Vals xs us):xs.length=us.length:=Paired.length r
theorem Vals.get:∀{xs:List V} {us:List Value} {i:Nat} {x:V},Vals xs us->xs[i]? =some x->∃u,us[i]? =some u/\RelV x u
 |_,_,_,_,.nil,e=>by simp at e
 |_,_,0,_,.cons r _,e=>by simp at e;subst e;exact⟨_,rfl,r⟩
 |_,_,i+1,x,.cons _ t,e=>by
  obtain⟨u,h1,h2⟩:=Vals.get (i:=i) (x:=x) t (by simpa using e);exact⟨u,by simpa using h1,h2⟩
theorem Vals.append:∀{xs ys:List V} {us ws:List Value},Vals xs us->Vals ys ws->Vals (xs++ys) (us++ws)
 |_,_,_,_,.nil,s=>s
 |_,_,_,_,.cons r t,s=>.cons r (Vals.append t s)
theorem Vals.take:∀{xs:List V} {us:List Value} (n:Nat),Vals xs us->Vals (xs.take n) (us.take n)
 |_,_,0,_=>.nil
 |_,_,_+1,.nil=>.nil
 |_,_,n+1,.cons r t=>.cons r (Vals.take n t)
theorem Vals.drop:∀{xs:List V} {us:List Value} (n:Nat),Vals xs us->Vals (xs.drop n) (us.drop n)
 |_,_,0,r=>r
 |_,_,_+1,.nil=>.nil
 |_,_,n+1,.cons _ t=>Vals.drop n t
def o_:Option V->Option Value->Prop
 |some v,some u=>RelV v u
 |none,none=>True
 |_,_=>False
def KV{κ:Type}:List (κ×V)->List (κ×Value)->Prop:=Paired λ(p:κ×V) (q:κ×Value)=>p.1=q.1/\RelV p.2 q.2
def kV:Key->V
 | .inl i=>.int i
 | .inr x=>.str x
inductive HO where
 |lst (xs:List V)
 |tup (xs:List V)
 |dK (d_:List (Key×V))|dT (d_:List (List Key×V))
 |set (S:Int->Bool) (n:Nat)
 |ins (C dx:Addr) (fs:List (Str×V))
 |own (x:Addr)
 |xd (fs:List (Str×V))
 |met (f x:Addr)
 |Ck (lo hi:Int)
 |jo (o:Obj) (u:HO)
 |sZ (ps:Array Value)
 |ext (φ:Heap->Prop)
abbrev Hp:=Addr->Option HO
def upd(H:Hp)(a:Addr)(o:HO):Hp:=λb=>if b=a then some o else H b
def cV{H:Hp}{a:Addr}{o:HO}:upd H a o a=some o:=by unfold upd;rw[ah rfl]
def eK{H:Hp}{a b:Addr}{o:HO}(h:b≠a):upd H a o b=H b:=by unfold upd;rw[aa h]
def jd{H:Hp}{a:Addr}{o u:HO}:upd (upd H a o) a u=upd H a u:=by
 funext b;unfold upd;split<;>rfl
def fE{H:Hp}{a b:Addr}{o:HO}(h:H a=some o)(h':H b=none):a≠b:=by
 intro e;subst e;rw[h]at h';cases h'
section
variable (P:Program)(w:World)
def ji(H:Hp)(h:Heap)(a:Addr):HO->Prop
 | .lst xs=>xs.length<=sizeLine/\∃(c7:List Value) (n:Nat),Vals xs c7/\h.get? a=some {cls:=.type "list",data:=.seq c7.toArray n}
 | .tup xs=>xs.length<=sizeLine/\∃c7:List Value,Vals xs c7/\IsTup h a c7.toArray
 | .dK d_=>d_.length<=sizeLine/\(a==sysModules)=false/\∃vs,KV d_ vs/\h.DictOf (qg P w) a vs
 | .dT d_=>d_.length<=sizeLine/\(a==sysModules)=false/\∃xs:List (List Key×Addr×Value),
   Paired (λ(p:List Key×V) (q:List Key×Addr×Value)=>p.1=q.1/\H q.2.1=some (.tup (p.1.map kV))/\RelV p.2 q.2.2) d_ xs/\
   ∃o es ep,h.get? a=some o/\o.ExactDict/\o.data= .dict es ep/\es.toList=xs.map (entryOfKey (tupleKind (qg P w)))/\(xs.map (·.1)).Nodup
 | .set S n=>h.SetOf (intKind P w) a S n
 | .ins C dx fs=>H dx=some (.own a)/\fs.length<=1000/\dx≠a/\h.get? a=some (instObj C dx)/\
   ∃mA,h.Ns1 dx mA/\(∀f,o_ (fs.lookup f) (mA f))/\PySem.Within mA (fs.map (·.1))
 | .own _=>∃o,h.get? a=some o
 | .xd fs=>∃mA,h.Ns1 a mA/\∀f,o_ (fs.lookup f) (mA f)
 | .Ck lo hi=>∃t u v,h.get? a=some {cls:=.type "range",data:=.fields #[.int lo t,.int hi u,.int 1 v]}
 | .jo o u=>h.get? a=some o/\ji H h a u
 | .sZ ps=>h.get? a=some {cls:=.none,data:=.fields ps}
 | .met f x=>h.get? a=some (methodObj (.ref f) (.ref x))
 | .ext φ=>φ h/\(∃o,h.get? a=some o)/\∀h1 h2:Heap,φ h1->(∀o,h1.get? a=some o->h2.get? a=some o)->φ h2
def gw(H:Hp)(h:Heap):Prop:=∀a o,H a=some o->ji P w H h a o
end
section
variable {P:Program}{w:World}{H H':Hp}{h h':Heap}{a:Addr}{o:HO}
theorem ji.lt(x:ji P w H h a o):a<h.objs.size:=by
 cases o with
 |lst xs=>obtain⟨_,_,_,_,e⟩:=x;exact cj e
 |tup xs=>obtain⟨_,_,_,p⟩:=x;exact p.lt
 |dK d_=>obtain⟨_,_,_,_,o,_,_,e,_⟩:=x;exact cj e
 |dT d_=>obtain⟨_,_,_,_,o,_,_,e,_⟩:=x;exact cj e
 |set S n=>obtain⟨o,_,_,_,e,_⟩:=x;exact cj e
 |ins C dx fs=>obtain⟨_,_,_,e,_⟩:=x;exact cj e
 |own y=>obtain⟨_,e⟩:=x;exact cj e
 |xd fs=>obtain⟨_,⟨_,_,_,e,_⟩,_⟩:=x;exact cj e
 |Ck lo hi=>obtain⟨_,_,_,e⟩:=x;exact cj e
 |jo ob u=>obtain⟨e,_⟩:=x;exact cj e
 |sZ ps=>exact cj (show h.get? a=some _ from x)
 |met f y=>exact cj (show h.get? a=some _ from x)
 |ext φ=>obtain⟨_,⟨_,e⟩,_⟩:=x;exact cj e
theorem Paired.Rw{α β:Type}{F G:α->β->Prop}:∀{l₁:List α} {l₂:List β},Paired F l₁ l₂->(∀a b,F a b->G a b)->Paired G l₁ l₂
 |_,_,.nil,_=>.nil
 |_,_,.cons r t,f=>.cons (f _ _ r) (Paired.Rw t f)
def ji.stay(x:ji P w H h a o)(k:∀b u,(b=a\/H b=some (.own a))->h.get? b=some u->h'.get? b=some u)
  (ho:∀b,H b=some (.own a)->H' b=some (.own a))(ht:∀b xs,H b=some (.tup xs)->H' b=some (.tup xs)):ji P w H' h' a o:=by
 induction o with
 |lst xs=>obtain⟨z,c7,n,r,e⟩:=x;exact⟨z,c7,n,r,k _ _ (.inl rfl) e⟩
 |tup xs=>obtain⟨z,c7,r,ob,e,c⟩:=x;exact⟨z,c7,r,ob,k _ _ (.inl rfl) e,c⟩
 |dK d_=>obtain⟨z,y,vs,r,ob,es,ep,e,c⟩:=x;exact⟨z,y,vs,r,ob,es,ep,k _ _ (.inl rfl) e,c⟩
 |dT d_=>
  obtain⟨z,y,xs,r,ob,es,ep,e,c⟩:=x;exact⟨z,y,xs,Paired.Rw r λp q z=>⟨z.1,ht _ _ z.2.1,z.2.2⟩,ob,es,ep,k _ _ (.inl rfl) e,c⟩
 |set S n=>obtain⟨ob,es,ep,t,e,c⟩:=x;exact⟨ob,es,ep,t,k _ _ (.inl rfl) e,c⟩
 |ins C dx fs=>
  obtain⟨d,z,ne,e,mA,⟨od,es,ep,e2,c⟩,r⟩:=x;exact⟨ho _ d,z,ne,k _ _ (.inl rfl) e,mA,⟨od,es,ep,k _ _ (.inr d) e2,c⟩,r⟩
 |own y=>obtain⟨ob,e⟩:=x;exact⟨ob,k _ _ (.inl rfl) e⟩
 |xd fs=>obtain⟨mA,⟨od,es,ep,e,c⟩,r⟩:=x;exact⟨mA,⟨od,es,ep,k _ _ (.inl rfl) e,c⟩,r⟩
 |Ck lo hi=>obtain⟨t,u,v,e⟩:=x;exact⟨t,u,v,k _ _ (.inl rfl) e⟩
 |jo ob u ih=>obtain⟨e,q⟩:=x;exact⟨k _ _ (.inl rfl) e,ih q⟩
 |sZ ps=>
  have e:h.get? a=some {cls:=.none,data:=.fields ps}:=x;show h'.get? a=some {cls:=.none,data:=.fields ps};exact k a _ (.inl rfl) e
 |met f y=>
  have e:h.get? a=some (methodObj (.ref f) (.ref y)):=x;show h'.get? a=some (methodObj (.ref f) (.ref y));exact k a _ (.inl rfl) e
 |ext φ=>obtain⟨p,⟨o,e⟩,st⟩:=x;exact⟨st _ _ p λo q=>k _ _ (.inl rfl) q,⟨o,k _ _ (.inl rfl) e⟩,st⟩
theorem gw.lt(x:gw P w H h)(e:H a=some o):a<h.objs.size:=(x a o e).lt
def gw.fresh(x:gw P w H h)(e:h.objs.size<=a):H a=none:=by
 cases q:H a with
 |none=>rfl
 |some u=>exact cJ (bA (x.lt q) e) (Nat.lt_irrefl _)
def gw.kept(x:gw P w H h)(k:∀b u,h.get? b=some u->h'.get? b=some u):gw P w H h':=λa o e=>
 (x a o e).stay (λb u _ q=>k b u q) (λ_ q=>q) λ_ _ q=>q
def gw.laid(x:gw P w H h)(k:∀b u,h.get? b=some u->h'.get? b=some u)(hp:h.objs.size<=a)(new:ji P w (upd H a o) h' a o):gw P w (upd H a o) h':=λb u e=>by
 have hn:=x.fresh hp
 by_cases hb:b=a
 .subst hb;rw[cV]at e;cases e;exact new
 .rw[eK hb]at e;exact(x b u e).stay (λc v _ q=>k c v q) (λc q=>by rw[eK (fE q hn)];exact q) λc xs q=>by rw[eK (fE q hn)];exact q
end
def Rd(H:Hp)(a:Addr)(u:HO):Prop:=H a=some u\/∃o,H a=some (.jo o u)
def Rd.ok{P:Program}{w:World}{H:Hp}{h:Heap}{a:Addr}{u:HO}(r:Rd H a u)(x:gw P w H h):ji P w H h a u:=by
 rcases r with r|⟨o,r⟩
 .exact x a u r
 .obtain⟨_,q⟩:=x a _ r;exact q
def C9:Option HO->Prop
 |some (.lst _)=>True
 |some (.dK _)=>True
 |some (.dT _)=>True
 |some (.set _ _)=>True
 |some (.ins _ _ _)=>True
 |some (.ext _)=>True
 |_=>False
section
variable {P:Program}{w:World}{H:Hp}{h h':Heap}{x e:Addr}{o':HO}
def gw.write(ok:gw P w H h)(mu:C9 (H x))(he:e=x\/H e=some (.own x))(k:∀b u,b≠e->h.get? b=some u->h'.get? b=some u)(xu:∃u,h'.get? e=some u)
  (new:ji P w (upd H x o') h' x o'):gw P w (upd H x o') h':=λb u q=>by
 have Rv:∀c y,H c=some (.own y)->c≠x:=λc y r z=>by subst z;rw[r]at mu;exact mu
 have aL9:∀c xs,H c=some (.tup xs)->c≠x:=λc xs r z=>by subst z;rw[r]at mu;exact mu
 by_cases hb:b=x
 .subst hb;rw[cV]at q;cases q;exact new
 .rw[eK hb]at q
  by_cases u9:b=e
  .have q':H b=some (.own x):=by
    rcases he with z|z
    .exact cJ (u9.trans z) hb
    .rw[u9];exact z
   rw[q]at q';cases q';obtain⟨v,hv⟩:=xu;exact⟨v,by rw[u9];exact hv⟩
  .refine(ok b u q).stay (λc v hc r=>k c v ?_ r) (λc r=>by rw[eK (Rv c b r)];exact r) λc xs r=>by rw[eK (aL9 c xs r)];exact r
   rcases hc with rfl|hc
   .exact u9
   .rintro rfl;rcases he with z|z
    .exact Rv c b hc z
    .rw[hc]at z;cases z;exact hb rfl
end
structure Un(fs ex:List Addr)(H H':Hp)(h h':Heap):Prop where
 keep:∀b o,h.get? b=some o->H b=none->b∉fs->b∉ex->h'.get? b=some o
 slot:∀b o,h.get? b=some o->H b=none->b∈fs->b∉ex->∃sl,h'.get? b=some {o with slots:=sl}
 free:∀b o,h.get? b=some o->H b=none->b∉ex->H' b=none
 there:∀b o,h.get? b=some o->b∉ex->∃o',h'.get? b=some o'
 tups:∀b xs,H b=some (.tup xs)->H' b=some (.tup xs)
 qE:∀b o u,H b=some (.jo o u)->H' b=some (.jo o u)
 rC:∀b ps,H b=some (.sZ ps)->∃more,H' b=some (.sZ (ps++more))
section
variable {fs fs' ex ex':List Addr}{H H1 H2:Hp}{h h1 h2 h':Heap}{a x e:Addr}{o:HO}
def Un.any(u:Un fs ex H H1 h h1){b:Addr}{ob:Obj}(q:h.get? b=some ob)(n:H b=none)(hx:b∉ex):∃sl,h1.get? b=some {ob with slots:=sl}:=by
 by_cases hb:b∈fs
 .exact u.slot b ob q n hb hx
 .exact⟨ob.slots,u.keep b ob q n hb hx⟩
def Un.kept(k:∀b u,h.get? b=some u->h'.get? b=some u):Un fs ex H H h h':=
 ⟨λb ob q _ _ _=>k b ob q,λb ob q _ _ _=>⟨ob.slots,k b ob q⟩,λ_ _ _ n _=>n,λb ob q _=>⟨ob,k b ob q⟩,λ_ _ q=>q,λ_ _ _ q=>q,λ_ ps q=>⟨#[],by rw[q];simp⟩⟩
def Un.refl:Un fs ex H H h h:=Un.kept λ_ _ q=>q
def Un.laid(k:∀b u,h.get? b=some u->h'.get? b=some u)(hp:h.objs.size<=a)(hn:H a=none):Un fs ex H (upd H a o) h h' where
 keep:=λb u q _ _ _=>k b u q
 slot:=λb u q _ _ _=>⟨u.slots,k b u q⟩
 free:=λb u q n _=>by rw[eK (b5 (bA (cj q) hp))];exact n
 there:=λb u q _=>⟨u,k b u q⟩
 tups:=λb xs q=>by rw[eK (fE q hn)];exact q
 qE:=λb u xs q=>by rw[eK (fE q hn)];exact q
 rC:=λb ps q=>⟨#[],by rw[eK (fE q hn),q];simp⟩
def Un.write(mu:C9 (H x))(he:e=x\/H e=some (.own x))(k:∀b u,b≠e->h.get? b=some u->h'.get? b=some u)(xu:∃u,h'.get? e=some u):Un fs ex H (upd H x o) h h':=by
 have hx:∀b,H b=none->b≠x:=λb n z=>by subst z;rw[n]at mu;exact mu
 have hb:∀b,H b=none->b≠e:=λb n z=>by
  subst z;rcases he with r|r
  .exact hx b n r
  .rw[n]at r;cases r
 have hm:∀b u,H b=some u->¬C9 (some u)->b≠x:=λb u q nm z=>by subst z;rw[q]at mu;exact nm mu
 refine⟨λb u q n _ _=>k b u (hb b n) q,λb u q n _ _=>⟨u.slots,k b u (hb b n) q⟩,λb u q n _=>by rw[eK (hx b n)];exact n,λb u q _=>?_,
  λb xs q=>by rw[eK (hm b _ q λz=>z)];exact q,λb u xs q=>by rw[eK (hm b _ q λz=>z)];exact q,λb ps q=>⟨#[],by rw[eK (hm b _ q λz=>z),q];simp⟩⟩
 by_cases u9:b=e
 .subst u9;exact xu
 .exact⟨u,k b u u9 q⟩
end
def Cd(h:Heap)(H:Hp):List Addr:=(List.range h.objs.size).filter λa=>(H a).isSome
def rF(h:Heap)(H:Hp):Heap:=hideAll h (Cd h H)
def Zi(h:Heap)(H:Hp):(rF h H).objs.size=h.objs.size:=hideAll_size _ _
def ad7{h:Heap}{H:Hp}{b:Addr}{o:Obj}(e:h.get? b=some o)(n:H b=none):(rF h H).get? b=some o:=
 hideAll_get _ e λhm=>by
  have q:(H b).isSome=true:=(bS.mp hm).2;rw[n]at q;simp at q
def ak6{h:Heap}{H:Hp}{b:Addr}{o:Obj}(e:(rF h H).get? b=some o):h.get? b=some o/\H b=none:=by
 have e':h.get? b=some o:=of_hideAll (Cd h H) e;refine⟨e',?_⟩;cases q:H b with
 |none=>rfl
 |some x=>
  have hm:b∈Cd h H:=bS.mpr ⟨List.mem_range.mpr (cj e'),by simp[q]⟩;have z:(rF h H).get? b=none:=hideAll_none (Cd h H) hm;rw[z]at e;cases e
structure Mod(K:b6)(mg:Str->Option Value)(base:Heap):Prop where
 Cp:K.In base
 glob:base.Ns mainGlobals mg
 blt:∃mb,base.Ns builtinsNs mb/\∀x:Str,x≠"__name__"->mb x=bootBuiltins x
 nolimit:base.NoLimit
structure Cx where
 prog:Program
 w:World
 K:b6
 mg:Str->Option Value
 base:Heap
 A:Around
 N:List Str
 iw:Shared
 Ae:Hp
 env:Env
 outer:List Env
 stack:List Env
 ex:List Addr
 fn:Str->Bool
 calm:Bool
 pn:List (Addr×Obj)
 xe:Value->Shared->Prop
def frs(l:List Env):List Addr:=l.filterMap (·.frame)
abbrev Cx.fs(X:Cx):List Addr:=frs X.outer
def xJ(sc:Scope)(x:Str):Prop:=sc.names.lookup x=some .local\/sc.names.lookup x=some .cell\/sc.names.lookup x=some .free
def Loc(sc:Scope)(x:Str):Prop:=sc.names.lookup x=some .local\/sc.names.lookup x=some .cell
def Look(env:Env)(h:Heap)(m:Str->Option Value)(x:Str)(u:Value):Prop:=
 (env.kindOf x=some .local/\m x=some u)\/((env.kindOf x=some .cell\/env.kindOf x=some .free)/\∃c,env.cells.lookup x=some c/\h.IsCell c (some u))
structure Cx.Ok(X:Cx):Prop where
 mod:Mod X.K X.mg X.base
 kind:X.env.scope.kind= .function
 glob:X.env.globals=mainGlobals
 blt:X.env.builtins=builtinsNs
 above:X.iw.heap.objs.size<=X.env.locals
 inj:∀x y c,X.env.cells.lookup x=some c->X.env.cells.lookup y=some c->x=y
 has:∀x,(X.env.kindOf x=some .cell\/X.env.kindOf x=some .free)->∃c,X.env.cells.lookup x=some c
 vh:∀x c,X.fn x=true->X.env.cells.lookup x=some c->X.iw.heap.objs.size<=c
 hd:X.calm=true->X.A.handled=none
 frames:X.A.frames=some X.stack
 stk:X.stack=X.outer\/(X.stack=X.env::X.outer/\X.env.frame=some X.env.locals)
 ve:∀b∈X.ex,b≠X.env.locals/\∀x c,X.env.cells.lookup x=some c->c≠b
 bs:∀b o,X.base.get? b=some o->X.iw.heap.get? b=some o/\X.Ae b=none
 qU:X.base.objs.size<=X.iw.heap.objs.size
 wI:∀b o,X.base.get? b=some o->b∉X.ex
 uL:∀b∈X.ex,b∉X.fs
 lI:X.iw.heap.FunFrames X.base X.outer
 tX:∀b∈X.fs,X.Ae b=none
structure Inv(X:Cx)(pins:List (Addr×Obj))(σ:List (Option V))(H:Hp)(s:Shared):Prop where
 ok:X.Ok
 os:s.os=X.iw.os
 bare:AllBare s.gens
 base:Un X.fs X.ex X.Ae H X.iw.heap s.heap
 loc:∃m,s.heap.Ns X.env.locals m/\∀(i:Nat) (x:Str) (v:V),X.N[i]? =some x->σ[i]? =some (some v)->xJ X.env.scope x->∃u,RelV v u/\Look X.env s.heap m x u
 cell:∀x c,X.env.cells.lookup x=some c->∃v,s.heap.IsCell c v
 free:H X.env.locals=none
 mH:∀x c,X.env.cells.lookup x=some c->H c=none
 pin:∀p∈X.pn++pins,s.heap.get? p.1=some p.2/\H p.1=none/\p.1≠X.env.locals/\p.1∉X.fs/\∀v,p.2.data≠.cell v
 hok:gw X.prog X.w H s.heap
 len:σ.length=X.N.length
section
variable {X:Cx}{pins:List (Addr×Obj)}{σ:List (Option V)}{H H':Hp}{s:Shared}{h':Heap}
def Cx.Ok.aM1(ok:X.Ok){b:Addr}{o:Obj}(e:X.base.get? b=some o):b∉X.fs:=λhb=>by
 have:=(ok.lI.mem hb).1;rw[e]at this;cases this
theorem Inv.bs(I:Inv X pins σ H s):∀b o,X.base.get? b=some o->s.heap.get? b=some o/\H b=none:=λb o e=>
 ⟨I.base.keep b o (I.ok.bs b o e).1 (I.ok.bs b o e).2 (I.ok.aM1 e) (I.ok.wI b o e),I.base.free b o (I.ok.bs b o e).1 (I.ok.bs b o e).2 (I.ok.wI b o e)⟩
def Inv.bk(I:Inv X pins σ H s):∀b o,X.base.get? b=some o->s.heap.get? b=some o:=λb o e=>(I.bs b o e).1
theorem Inv.mod(I:Inv X pins σ H s):Mod X.K X.mg X.base:=I.ok.mod
def Inv.kZ(I:Inv X pins σ H s):X.K.In s.heap:=I.ok.mod.Cp.keeps I.bk
theorem Inv.lt(I:Inv X pins σ H s):X.env.locals<s.heap.objs.size:=let⟨_,hn,_⟩:=I.loc;hn.lt
def Inv.sz(I:Inv X pins σ H s):X.iw.heap.objs.size<=s.heap.objs.size:=aV I.ok.above (Nat.le_of_lt I.lt)
def Inv.aM0(I:Inv X pins σ H s){a:Addr}(h:s.heap.objs.size<=a):a∉X.fs:=λhb=>by
 obtain⟨_,o,ho,_⟩:=I.ok.lI.mem hb;exact cJ (bA (cj ho) (aV I.sz h)) (Nat.lt_irrefl _)
def Inv.vg(I:Inv X pins σ H s):∀x c,X.env.cells.lookup x=some c->c≠X.env.locals:=λx c e z=>by
 obtain⟨v,o,ho,hd⟩:=I.cell x c e;obtain⟨m,⟨o',es,ep,jF,xx,_⟩,_⟩:=I.loc;rw[z,jF]at ho;cases ho;rw[xx]at hd;cases hd
theorem Inv.lI(I:Inv X pins σ H s):s.heap.FunFrames X.base X.outer:=by
 have all:∀(l:List Env),(∀b∈frs l,b∈X.fs)->X.iw.heap.FunFrames X.base l->s.heap.FunFrames X.base l:=by
  intro l
  induction l with
  |nil=>intro _ _;trivial
  |cons env r ih=>
   intro hs hl;obtain⟨hk,⟨L,o,hf,hn,ho,hd⟩,hr⟩:=hl;have hL:L∈X.fs:=hs L (by unfold frs;rw[aJ,hf];exact aB);obtain⟨sl,e⟩:=I.base.slot L o ho (I.ok.tX L hL) hL λz=>I.ok.uL L z hL;exact⟨hk,⟨L,_,hf,hn,e,hd⟩,ih (λb hb=>hs b (by unfold frs;rw[aJ,hf];exact aA _ hb)) hr⟩
 exact all X.outer (λ_ hb=>hb) I.ok.lI
theorem Inv.stack(I:Inv X pins σ H s):s.heap.FunFrames X.base X.stack:=by
 rcases I.ok.stk with e|⟨e,hf⟩
 .rw[e];exact I.lI
 .rw[e];obtain⟨m,hn,_⟩:=I.loc;refine .cons (by rw[I.ok.kind];decide) hf hn ?_ I.lI;exact Heap.get?_none_of_le (aV I.ok.qU I.ok.above)
def Inv.vW(I:Inv X pins σ H s):∀b∈frs X.stack,b∈X.env.locals::X.fs:=λb hb=>by
 rcases I.ok.stk with e|⟨e,hf⟩
 .rw[e]at hb;exact aA _ hb
 .rw[e]at hb;unfold frs at hb;rw[aJ,hf]at hb;exact hb
def Inv.yf(I:Inv X pins σ H s):∀b∈frs X.stack,H b=none:=λb hb=>by
 rcases aN.mp (I.vW b hb)with e|hb
 .rw[e];exact I.free
 .obtain⟨_,o,ho,_⟩:=I.ok.lI.mem hb;exact I.base.free b o ho (I.ok.tX b hb) λz=>I.ok.uL b z hb
def Inv.step{g':Array GenState}{t':Nat}{d':Drawn}{ch:List Addr}(I:Inv X pins σ H s)
  (qO:∀b∈ch,(b∈X.ex\/X.iw.heap.objs.size<=b)/\b≠X.env.locals/\(∀x c,X.env.cells.lookup x=some c->c≠b)/\∀p∈X.pn++pins,p.1≠b)
  (keep:∀b o,b≠X.env.locals->b∉X.fs->b∉ch->s.heap.get? b=some o->H b=none->h'.get? b=some o)
  (slot:∀b o,b≠X.env.locals->b∈X.fs->b∉ch->s.heap.get? b=some o->H b=none->∃sl,h'.get? b=some {o with slots:=sl})(free:∀b o,b∉ch->s.heap.get? b=some o->H b=none->H' b=none)
  (there:∀b o,b∉ch->s.heap.get? b=some o->∃o',h'.get? b=some o')
  (tups:∀b xs,H b=some (.tup xs)->H' b=some (.tup xs))(qE:∀b o u,H b=some (.jo o u)->H' b=some (.jo o u))(rC:∀b ps,H b=some (.sZ ps)->∃more,H' b=some (.sZ (ps++more)))
  (ns:∀m,s.heap.Ns X.env.locals m->h'.Ns X.env.locals m)(hok:gw X.prog X.w H' h')(hg:AllBare g'):
  Inv X pins σ H' {s with heap:=h',gens:=g',drawn:=d',toks:=t'}:=by
 have Sg:∀b o,X.iw.heap.get? b=some o->b≠X.env.locals:=λb o e=>b5 (bA (cj e) I.ok.above);have Co:∀b o,X.iw.heap.get? b=some o->b∉X.ex->b∉ch:=λb o e hx hb=>by
  rcases(qO b hb).1 with z|z
  .exact hx z
  .exact cJ (bA (cj e) z) (Nat.lt_irrefl _)
 have cellK:∀x c,X.env.cells.lookup x=some c->∀v,s.heap.IsCell c v->h'.IsCell c v:=λx c e v ⟨o,ho,hd⟩=>by
  have zx:c∉ch:=λz=>(qO c z).2.2.1 x c e rfl
  by_cases hc:c∈X.fs
  .obtain⟨sl,q⟩:=slot c o (I.vg x c e) hc zx ho (I.mH x c e);exact⟨_,q,hd⟩
  .exact⟨o,keep c o (I.vg x c e) hc zx ho (I.mH x c e),hd⟩
 refine⟨I.ok,I.os,hg,⟨λb o e n hb hx=>?_,λb o e n hb hx=>?_,λb o e n hx=>?_,λb o e hx=>?_,λb xs e=>tups b xs (I.base.tups b xs e),λb o xs e=>qE b o xs (I.base.qE b o xs e),λb ps e=>?_⟩,?_,λx c e=>?_,?_,λx c e=>?_,λp hp=>?_,hok,I.len⟩
 .exact keep b o (Sg b o e) hb (Co b o e hx) (I.base.keep b o e n hb hx) (I.base.free b o e n hx)
 .obtain⟨sl,e1⟩:=I.base.slot b o e n hb hx;obtain⟨sl',e2⟩:=slot b _ (Sg b o e) hb (Co b o e hx) e1 (I.base.free b o e n hx);exact⟨sl',e2⟩
 .obtain⟨o',e1⟩:=I.base.there b o e hx;exact free b o' (Co b o e hx) e1 (I.base.free b o e n hx)
 .obtain⟨o',e1⟩:=I.base.there b o e hx;exact there b o' (Co b o e hx) e1
 .obtain⟨m1,e1⟩:=I.base.rC b ps e;obtain⟨m2,e2⟩:=rC b _ e1;exact⟨m1++m2,by rw[e2,Array.append_assoc]⟩
 .obtain⟨m,hn,hl⟩:=I.loc;refine⟨m,ns m hn,λi x v e1 e2 e3=>?_⟩;obtain⟨u,r,l⟩:=hl i x v e1 e2 e3;refine⟨u,r,?_⟩;rcases l with l|⟨k,c,e,z⟩
  .exact .inl l
  .exact .inr ⟨k,c,e,cellK x c e _ z⟩
 .obtain⟨v,z⟩:=I.cell x c e;exact⟨v,cellK x c e v z⟩
 .obtain⟨m,⟨o,_,_,ho,_⟩,_⟩:=I.loc;exact free _ o (λz=>(qO _ z).2.1 rfl) ho I.free
 .obtain⟨v,o,ho,hd⟩:=I.cell x c e;exact free c o (λz=>(qO c z).2.2.1 x c e rfl) ho (I.mH x c e)
 .obtain⟨e,n,ne,nf,d⟩:=I.pin p hp;have zx:p.1∉ch:=λz=>(qO p.1 z).2.2.2 p hp rfl;exact⟨keep p.1 p.2 ne nf zx e n,free p.1 p.2 zx e n,ne,nf,d⟩
def Inv.un{t':Nat}(I:Inv X pins σ H s)(u:Un X.fs [] H H' s.heap h')(hok:gw X.prog X.w H' h'):Inv X pins σ H' {s with heap:=h',toks:=t'}:=by
 obtain⟨m,⟨o,es,ep,ho,r⟩,_⟩:=id I.loc;obtain⟨sl,hL⟩:=u.any ho I.free (by simp);exact I.step (g':=s.gens) (d':=s.drawn) (ch:=[]) (λ_ z=>nomatch z) (λb o _ hb _ e n=>u.keep b o e n hb (by simp)) (λb o _ hb _ e n=>u.slot b o e n hb (by simp)) (λb o _ e n=>u.free b o e n (by simp)) (λb o _ e=>u.there b o e (by simp)) u.tups u.qE u.rC (λm' hm=>by
  obtain⟨o',vf,rT,jF,r'⟩:=hm;rw[ho]at jF;cases jF;exact⟨_,vf,rT,hL,r'⟩) hok I.bare
def Inv.call{g':Array GenState}{t':Nat}{d':Drawn}{ch:List Addr}(I:Inv X pins σ H s)(u:Un (frs X.stack) ch H H' s.heap h')(hok:gw X.prog X.w H' h')(hg:AllBare g')
  (qO:∀b∈ch,(b∈X.ex\/X.iw.heap.objs.size<=b)/\b≠X.env.locals/\(∀x c,X.env.cells.lookup x=some c->c≠b)/\∀p∈X.pn++pins,p.1≠b):
  Inv X pins σ H' {s with heap:=h',gens:=g',drawn:=d',toks:=t'}:=by
 obtain⟨m,⟨o,es,ep,ho,r⟩,_⟩:=id I.loc;obtain⟨sl,hL⟩:=u.any ho I.free λz=>(qO _ z).2.1 rfl;exact I.step (ch:=ch) qO (λb o hL hb hc e n=>u.keep b o e n (λz=>(aN.mp (I.vW b z)).elim hL hb) hc) (λb o _ _ hc e n=>u.any e n hc) (λb o hc e n=>u.free b o e n hc) (λb o hc e=>u.there b o e hc) u.tups u.qE u.rC (λm' hm=>by
  obtain⟨o',vf,rT,jF,r'⟩:=hm;rw[ho]at jF;cases jF;exact⟨_,vf,rT,hL,r'⟩) hok hg
def Inv.turned{t':Nat}{it:Addr}(I:Inv X pins σ H s)(k:∀b o,b≠it->s.heap.get? b=some o->h'.get? b=some o)(hn:H it=none)(hL:it≠X.env.locals)
  (h1:it∈X.ex\/X.iw.heap.objs.size<=it)(h2:∀x c,X.env.cells.lookup x=some c->c≠it)(h3:∀p∈X.pn++pins,p.1≠it):Inv X pins σ H {s with heap:=h',toks:=t'}:=by
 have zw:∀b u,H b=some u->b≠it:=λb u e z=>by rw[z,hn]at e;cases e
 refine I.step (g':=s.gens) (d':=s.drawn) (ch:=[it]) (λb hb=>?_) (λb o _ _ hc e _=>k b o (λz=>hc (by simp[z])) e) (λb o _ _ hc e _=>⟨o.slots,k b o (λz=>hc (by simp[z])) e⟩) (λ_ _ _ _ n=>n)
  (λb o hc e=>⟨o,k b o (λz=>hc (by simp[z])) e⟩) (λ_ _ e=>e) (λ_ _ _ e=>e) (λb ps e=>⟨#[],by rw[e];simp⟩) (λm hm=>?_) (λb u e=>?_) I.bare
 .have e:b=it:=by simpa using hb
  subst e;exact⟨h1,hL,h2,h3⟩
 .obtain⟨o,es,ep,ho,r⟩:=hm;exact⟨o,es,ep,k _ o (cH hL) ho,r⟩
 .refine(I.hok b u e).stay (λc v hc q=>k c v ?_ q) (λ_ q=>q) λ_ _ q=>q;rcases hc with z|z
  .rw[z];exact zw b u e
  .exact zw c _ z
def Inv.tok(I:Inv X pins σ H s)(t:Nat):Inv X pins σ H {s with toks:=t}:=I.un (h':=s.heap) (t':=t) Un.refl I.hok
theorem Inv.kept{t':Nat}(I:Inv X pins σ H s)(k:∀b u,s.heap.get? b=some u->h'.get? b=some u):Inv X pins σ H {s with heap:=h',toks:=t'}:=I.un (Un.kept k) (I.hok.kept k)
theorem Inv.laid{a:Addr}{o:HO}{t':Nat}(I:Inv X pins σ H s)(k:∀b u,s.heap.get? b=some u->h'.get? b=some u)(hp:s.heap.objs.size<=a)(new:ji X.prog X.w (upd H a o) h' a o):
  Inv X pins σ (upd H a o) {s with heap:=h',toks:=t'}:=I.un (Un.laid k hp (I.hok.fresh hp)) (I.hok.laid k hp new)
theorem Inv.write{x e:Addr}{o:HO}{t':Nat}(I:Inv X pins σ H s)(mu:C9 (H x))(he:e=x\/H e=some (.own x))(k:∀b u,b≠e->s.heap.get? b=some u->h'.get? b=some u)(xu:∃u,h'.get? e=some u)
  (new:ji X.prog X.w (upd H x o) h' x o):Inv X pins σ (upd H x o) {s with heap:=h',toks:=t'}:=I.un (Un.write mu he k xu) (I.hok.write mu he k xu new)
def Inv.weak{σ':List (Option V)}(I:Inv X pins σ H s)(hl:σ'.length=σ.length)(w:∀(i:Nat) v,σ'[i]? =some (some v)->σ[i]? =some (some v)):Inv X pins σ' H s:=
 ⟨I.ok,I.os,I.bare,I.base,let⟨m,hn,SE⟩:=I.loc;⟨m,hn,λi x v e1 e2 e3=>SE i x v e1 (w i v e2) e3⟩,I.cell,I.free,I.mH,I.pin,I.hok,hl.trans I.len⟩
def Inv.Mz{jf:List (Addr×Obj)}(I:Inv X pins σ H s)(h:∀p∈jf,s.heap.get? p.1=some p.2/\H p.1=none/\p.1≠X.env.locals/\p.1∉X.fs/\∀v,p.2.data≠.cell v):Inv X jf σ H s:=
 ⟨I.ok,I.os,I.bare,I.base,I.loc,I.cell,I.free,I.mH,λp hp=>(List.mem_append.mp hp).elim (λz=>I.pin p (bE _ z)) (h p),I.hok,I.len⟩
def EB{N:List Str}(hN:N.Nodup){i j:Nat}{x:Str}(a:N[i]? =some x)(b:N[j]? =some x):i=j:=by
 obtain⟨h1,e1⟩:=aD.mp a;obtain⟨h2,e2⟩:=aD.mp b;exact(List.getElem_inj hN).mp (e1.trans e2.symm)
def D8{M:Model}{A:Around}{E:Value->Shared->Prop}{i:Nat}{x:Str}{v:V}{u:Value}{Q:Unit->Shared->Prop}(I:Inv X pins σ H s)(hN:X.N.Nodup)(hi:X.N[i]? =some x)(hx:Loc X.env.scope x)(r:RelV v u)
  (h:∀s',Inv X pins (σ.set i (some v)) H s'->(∃a,Heap.SameBut a s.heap s'.heap/\(a=X.env.locals\/X.env.cells.lookup x=some a))->Q Unit.unit s')(hf:X.fn x=true\/X.env.scope.names.lookup x=some .local:=by exact ∅):wpAny M A (storeName X.env x u) Q E s:=by
 obtain⟨m,hn,hl⟩:=id I.loc;have GD:(X.env.scope.kind== .class||(X.env.scope.kind== .module&&X.env.locals != X.env.globals))=false:=by rw[I.ok.kind];rfl
 have RJ:i<σ.length:=by rw[I.len];exact(aD.mp hi).1
 have vg:=I.vg;have tracked:∀{a:Addr} {h':Heap},(∃o,s.heap.get? a=some o/\H a=none)->Heap.SameBut a s.heap h'->gw X.prog X.w H h':=λ{a h'} ha hs b ob e=>by
  obtain⟨_,_,sP⟩:=ha;refine(I.hok b ob e).stay (λc w' hc q=>(hs.2 c ?_).trans q) (λ_ q=>q) λ_ _ q=>q;rintro rfl;rcases hc with rfl|hc
  .rw[sP]at e;cases e
  .rw[sP]at hc;cases hc
 rcases hx with hk|hk
 .refine wpAny_storeName_local hk hn (λh' nZ hs=>?_) GD;obtain⟨oL,_,_,hoL,_⟩:=id hn;refine h _ ⟨I.ok,I.os,I.bare,⟨λb o e n hb hx=>?_,λb o e n hb hx=>?_,I.base.free,λb o e hx=>?_,I.base.tups,I.base.qE,I.base.rC⟩,⟨_,nZ,λj y v' e1 e2 e3=>?_⟩,λy c e=>?_,I.free,I.mH,λp hp=>?_,tracked ⟨oL,hoL,I.free⟩ hs,by simpa using I.len⟩ ⟨_,hs,.inl rfl⟩
  .exact(hs.2 b (b5 (bA (cj e) I.ok.above))).trans (I.base.keep b o e n hb hx)
  .obtain⟨sl,e1⟩:=I.base.slot b o e n hb hx;exact⟨sl,(hs.2 b (b5 (bA (cj e) I.ok.above))).trans e1⟩
  .obtain⟨o',e1⟩:=I.base.there b o e hx;exact⟨o',(hs.2 b (b5 (bA (cj e) I.ok.above))).trans e1⟩
  .by_cases hj:j=i
   .subst hj;rw[hi]at e1;cases e1;rw[List.getElem?_set_self RJ]at e2;cases e2;exact⟨u,r,.inl ⟨hk,by simp⟩⟩
   .rw[List.getElem?_set_ne (cH hj)]at e2;obtain⟨u',r',q⟩:=hl j y v' e1 e2 e3;refine⟨u',r',?_⟩;rcases q with⟨k,e⟩|⟨k,c,e,z⟩
    .refine .inl ⟨k,?_⟩;have:y≠x:=λe=>hj (EB hN e1 (e▸hi));simp[this,e]
    .exact .inr ⟨k,c,e,z.sameBut hs (vg y c e)⟩
  .obtain⟨w',z⟩:=I.cell y c e;exact⟨w',z.sameBut hs (vg y c e)⟩
  .obtain⟨e,n,ne,nf,d⟩:=I.pin p hp;exact⟨(hs.2 p.1 ne).trans e,n,ne,nf,d⟩
 .have n8:X.fn x=true:=by
   rcases hf with z|z
   .exact z
   .rw[z]at hk;cases hk
  obtain⟨c,hc⟩:=I.ok.has x (.inl hk);obtain⟨w',z⟩:=I.cell x c hc;refine wpAny_storeName_cell I.ok.kind hk hc z (λh' ia hs=>?_);obtain⟨oc,Cw,aN6⟩:=id z;refine h {s with heap:=h'} ⟨I.ok,I.os,I.bare,⟨λb o e n hb hx=>?_,λb o e n hb hx=>?_,I.base.free,λb o e hx=>?_,I.base.tups,I.base.qE,I.base.rC⟩,⟨m,hn.sameBut hs (cH (vg x c hc)),λj y v' e1 e2 e3=>?_⟩,λy c' e=>?_,I.free,I.mH,λp hp=>?_,tracked ⟨oc,Cw,I.mH x c hc⟩ hs,by simpa using I.len⟩ ⟨c,hs,.inr hc⟩
  .exact(hs.2 b (b5 (bA (cj e) (I.ok.vh x c n8 hc)))).trans (I.base.keep b o e n hb hx)
  .obtain⟨sl,e1⟩:=I.base.slot b o e n hb hx;exact⟨sl,(hs.2 b (b5 (bA (cj e) (I.ok.vh x c n8 hc)))).trans e1⟩
  .obtain⟨o',e1⟩:=I.base.there b o e hx;exact⟨o',(hs.2 b (b5 (bA (cj e) (I.ok.vh x c n8 hc)))).trans e1⟩
  .by_cases hj:j=i
   .subst hj;rw[hi]at e1;cases e1;rw[List.getElem?_set_self RJ]at e2;cases e2;exact⟨u,r,.inr ⟨.inl hk,c,hc,ia⟩⟩
   .rw[List.getElem?_set_ne (cH hj)]at e2;obtain⟨u',r',q⟩:=hl j y v' e1 e2 e3;refine⟨u',r',?_⟩;rcases q with q|⟨k,c',e,z'⟩
    .exact .inl q
    .refine .inr ⟨k,c',e,z'.sameBut hs ?_⟩;rintro rfl;exact hj (EB hN e1 (I.ok.inj _ _ _ e hc▸hi))
  .by_cases SW:c'=c
   .subst SW;exact⟨_,ia⟩
   .obtain⟨w2,z2⟩:=I.cell y c' e;exact⟨w2,z2.sameBut hs SW⟩
  .obtain⟨e,n,ne,nf,d⟩:=I.pin p hp;refine⟨(hs.2 p.1 ?_).trans e,n,ne,nf,d⟩;intro q;rw[q,Cw]at e;have q':oc=p.2:=aH e;exact d w' (by rw[<-q'];exact aN6)
def Es{M:Model}{A:Around}{E:Value->Shared->Prop}{i:Nat}{x:Str}{v:V}{u:Value}{Q:Unit->Shared->Prop}(I:Inv X pins σ H s)(hN:X.N.Nodup)(hi:X.N[i]? =some x)(hx:Loc X.env.scope x)(r:RelV v u)
  (h:∀s',Inv X pins (σ.set i (some v)) H s'->Q Unit.unit s')(hf:X.fn x=true\/X.env.scope.names.lookup x=some .local:=by exact ∅):wpAny M A (storeName X.env x u) Q E s:=
 D8 I hN hi hx r (λs' I' _=>h s' I') hf
def Inv.BO{s':Shared}{ch:List Addr}(I:Inv X pins σ H s)(ho:s'.os=s.os)(u:Un (frs X.stack) ch H H' s.heap s'.heap)(hok:gw X.prog X.w H' s'.heap)(hg:AllBare s'.gens)
  (qO:∀b∈ch,(b∈X.ex\/X.iw.heap.objs.size<=b)/\b≠X.env.locals/\(∀x c,X.env.cells.lookup x=some c->c≠b)/\∀p∈X.pn++pins,p.1≠b):Inv X pins σ H' s':=by
 obtain⟨h',g',d',t',o'⟩:=s';have e:o'=s.os:=ho;subst e;exact I.call (g':=g') (t':=t') (d':=d') u hok hg qO
end
abbrev XK:=Value->Option Addr->Hp->Prop
abbrev St:=List (Option V)
abbrev VK:=V->Hp->Prop
abbrev TE:=St->Hp->VK->Prop
abbrev TT:=St->Hp->(Bool->Hp->Prop)->Prop
abbrev TA:=St->Hp->(List V->Hp->Prop)->Prop
structure Ends where
 nx:St->Hp->Prop
 rt:VK
 bk:St->Hp->Prop:=λ_ _=>False
 ct:St->Hp->Prop:=λ_ _=>False
abbrev TS:=Ends->St->Hp->Prop
inductive EP(X:Cx)(pins:List (Addr×Obj))(σ:St)(Q:VK)(u:Value)(s':Shared):Prop|m(v H')(_:Inv X pins σ H' s')(_:RelV v u)(_:Q v H')
inductive TP(X:Cx)(pins:List (Addr×Obj))(σ:St)(Q:Bool->Hp->Prop)(b:Bool)(s':Shared):Prop|m(H')(_:Inv X pins σ H' s')(_:Q b H')
inductive AP(X:Cx)(pins:List (Addr×Obj))(σ:St)(Q:List V->Hp->Prop)(us:List Value)(s':Shared):Prop|m(vs H')(_:Inv X pins σ H' s')(_:Vals vs us)(_:Q vs H')
def SP(X:Cx)(pins:List (Addr×Obj))(D:Ends)(f:Flow)(s':Shared):Prop:=
 match f with
 | .next=>∃σ' H',Inv X pins σ' H' s'/\D.nx σ' H'
 | .brk=>∃σ' H',Inv X pins σ' H' s'/\D.bk σ' H'
 | .cont=>∃σ' H',Inv X pins σ' H' s'/\D.ct σ' H'
 | .ret u=>∃v σ' H',Inv X pins σ' H' s'/\RelV v u/\D.rt v H'
def PE(X:Cx)(e:Expr)(t:TE):Prop:=
 ∀(pins:List (Addr×Obj)) (s:Shared) (σ:St) (H:Hp) (Q:VK),Inv X pins σ H s->t σ H Q->wpAny (model X.prog X.w) X.A (eval e X.env) (EP X pins σ Q) X.xe s
def PT(X:Cx)(e:Expr)(t:TT):Prop:=
 ∀(pins:List (Addr×Obj)) (s:Shared) (σ:St) (H:Hp) (Q:Bool->Hp->Prop),Inv X pins σ H s->t σ H Q->wpAny (model X.prog X.w) X.A (isTrue e X.env (eval e X.env)) (TP X pins σ Q) X.xe s
def PW(X:Cx)(e:Expr)(t:TT):Prop:=
 ∀(whole:Sem Value) (pins:List (Addr×Obj)) (s:Shared) (σ:St) (H:Hp) (Q:Bool->Hp->Prop),Inv X pins σ H s->t σ H Q->wpAny (model X.prog X.w) X.A (isTrue e X.env whole) (TP X pins σ Q) X.xe s
def PW.pt{X:Cx}{e:Expr}{t:TT}(h:PW X e t):PT X e t:=h _
def PA(X:Cx)(es:List Expr)(t:TA):Prop:=
 ∀(pos:Pos) (pins:List (Addr×Obj)) (s:Shared) (σ:St) (H:Hp) (Q:List V->Hp->Prop),Inv X pins σ H s->t σ H Q->wpAny (model X.prog X.w) X.A (spliced (backTo pos (starEach es X.env))) (AP X pins σ Q) X.xe s
def PS(X:Cx)(st:Stmt)(t:TS):Prop:=
 ∀(pins:List (Addr×Obj)) (s:Shared) (σ:St) (H:Hp) (D:Ends),Inv X pins σ H s->t D σ H->wpAny (model X.prog X.w) X.A (exec st X.env) (SP X pins D) X.xe s
def gb(X:Cx)(st:List Stmt)(t:TS):Prop:=
 ∀(pins:List (Addr×Obj)) (s:Shared) (σ:St) (H:Hp) (D:Ends),Inv X pins σ H s->t D σ H->wpAny (model X.prog X.w) X.A (execs st X.env) (SP X pins D) X.xe s
def dY{α:Type}{t:Sem α}{Q Q':α->Shared->Prop}{M:Model}{A:Around}{E:Value->Shared->Prop}{s:Shared}(h:wpAny M A t Q E s)(hQ:∀a s,Q a s->Q' a s):wpAny M A t Q' E s:=wpAny_mono h hQ λ_ _ x=>x
section
variable {X:Cx}
def iL(i:Nat):TE:=λσ H Q=>match σ[i]? with |some (some v)=>Q v H|_=>False
def R0{i:Nat}{σ:St}{H:Hp}{Q:VK}{v:V}(h:Q v H)(e:σ[i]? =some (some v):=by rfl):iL i σ H Q:=by
 unfold iL;rw[e];exact h
def GW{i:Nat}{σ:St}{H:Hp}{Q:VK}(h:iL i σ H Q):∃v,σ[i]? =some (some v)/\Q v H:=by
 unfold iL at h;split at h
 .exact⟨_,by assumption,h⟩
 .exact h.elim
def tC(v:V):TE:=λ_ H Q=>Q v H
def au7{i:Nat}{x:Str}{pos:Pos}(hN:X.N[i]? =some x)(hv:xJ X.env.scope x)(hd:(x==("__debug__":Str))=false:=by decide)(lX:(x==("__classdict__":Str))=false:=by decide):PE X (.Name x pos) (iL i):=by
 intro pins s σ H Q I h;obtain⟨v,e,h⟩:=GW h;obtain⟨m,hn,hl⟩:=I.loc;obtain⟨u,r,l⟩:=hl i x v hN e hv;have fin:EP X pins σ Q u s:=⟨v,H,I,r,h⟩;rcases l with⟨hk,hm⟩|⟨hk,c,hc,oM⟩
 .exact wpAny_Name (wpAny_loadName_local I.ok.kind hk hn hm fin) hd
 .rcases hk with hk|hk
  .exact wpAny_Name (wpAny_loadName_cell I.ok.kind hk hc oM fin) hd
  .exact wpAny_Name (wpAny_loadName_free I.ok.kind hk hc oM fin lX) hd
def cZ{i j pos}:PE X (.Constant (.int i) j pos) (tC (.int i)):=λ_ _ _ H _ I h=>wpAny_Constant_int ⟨.int i,H,I.tok _,⟨_,rfl⟩,h⟩
def mG{b j pos}:PE X (.Constant (.bool b) j pos) (tC (.bl b)):=λ_ _ _ H _ I h=>Constant_bool ⟨.bl b,H,I,rfl,h⟩
def sH{j pos}:PE X (.Constant .none j pos) (tC .dI):=λ_ _ _ H _ I h=>Constant_none ⟨.dI,H,I,rfl,h⟩
def eH{x j pos}:PE X (.Constant (.str x) j pos) (tC (.str x)):=λ_ _ _ H _ I h=>Calls.Constant_str ⟨.str x,H,I.tok _,⟨_,rfl⟩,h⟩
def Gl(X:Cx)(x:Str):Prop:=X.env.kindOf x=some .globalImplicit
def vR{E:Value->Shared->Prop}{pins:List (Addr×Obj)}{s:Shared}{σ:St}{H:Hp}{x:Str}{u:Value}{pos:Pos}{Q:Value->Shared->Prop}(I:Inv X pins σ H s)(hg:Gl X x)(hm:X.mg x=some u)(h:Q u s)
  (hd:(x==("__debug__":Str))=false:=by decide):wpAny (model X.prog X.w) X.A (eval (.Name x pos) X.env) Q E s:=
 Calls.Name_function_global I.ok.kind hg (Calls.loadGlobal_global (by rw[I.ok.glob];exact I.mod.glob.keeps I.bk) hm h) hd
def yu{E:Value->Shared->Prop}{pins:List (Addr×Obj)}{s:Shared}{σ:St}{H:Hp}{x:Str}{u:Value}{pos:Pos}{Q:Value->Shared->Prop}(I:Inv X pins σ H s)(hg:Gl X x)(hm:X.mg x=none)(hv:bootBuiltins x=some u)(h:Q u s)
  (hn:x≠"__name__":=by decide)(hd:(x==("__debug__":Str))=false:=by decide):wpAny (model X.prog X.w) X.A (eval (.Name x pos) X.env) Q E s:=by
 obtain⟨mb,h1,h2⟩:=I.mod.blt;exact Calls.Name_function_global I.ok.kind hg (Calls.loadGlobal_builtin (by rw[I.ok.glob];exact I.mod.glob.keeps I.bk) hm (by rw[I.ok.blt];exact h1.keeps I.bk) ((h2 x hn).trans hv) h) hd
def EV{x:Str}{v:V}{u:Value}{pos:Pos}(hg:Gl X x)(hm:X.mg x=some u)(r:RelV v u)(hd:(x==("__debug__":Str))=false:=by decide):PE X (.Name x pos) (tC v):=
 λ_ _ _ H _ I h=>vR I hg hm ⟨v,H,I,r,h⟩ hd
variable {a b:Expr}{ta tb:TE}{pos:Pos}
def PC(X:Cx)(op:CmpOp)(a b:Expr)(t:TE):Prop:=
 ∀(pins:List (Addr×Obj)) (s:Shared) (σ:St) (H:Hp) (Q:VK),Inv X pins σ H s->t σ H Q->
  wpAny (model X.prog X.w) X.A (eval a X.env) (λv s₁=>wpAny (model X.prog X.w) X.A (eval b X.env) (λu s₂=>wpAny (model X.prog X.w) X.A (compareOp op v u) (EP X pins σ Q) X.xe s₂) X.xe s₁) X.xe s
inductive aK1(Q:Bool->Hp->Prop)(x:V)(H1:Hp):Prop|m(c)(_:x= .bl c)(_:Q c H1)
def tB(t:TE):TT:=λσ H Q=>t σ H λx H1=>aK1 Q x H1
def NU{op:CmpOp}{t:TE}(h:PC X op a b t)(h1:behindInMarks op b=false:=by first |exact aR9 _ () ()|rfl):PT X (.Compare a [op] [b] pos) (tB t):=by
 intro pins s σ H Q I hw;refine wpAny_isTrue_Compare1 (dY (h pins s σ H _ I hw) λv s1 h1=>dY h1 λu s2 h2=>dY h2 λc s3 ⟨x,H1,I1,r1,q1⟩=>?_) h1;obtain⟨d,rfl,q⟩:=q1;cases r1;exact wpAny_truthy_bool ⟨H1,I1,q⟩
def iH{e:Expr}{t:TE}(h:PE X e t)(he:∀whole,isTrue e X.env whole=(do let v <-whole;standAt e.pos;holding [v] (truthy v)):=by intro _;rfl):PT X e (tB t):=by
 intro pins s σ H Q I hw;refine isTrue_plain (dY (h pins s σ H _ I hw) λv s1 ⟨x,H1,I1,r1,q1⟩=>?_) (he _);obtain⟨d,rfl,q⟩:=q1;cases r1;exact wpAny_truthy_bool ⟨H1,I1,q⟩
variable {tA Cf:TT}{rest:List Expr}
def aK4(t u:TT):TT:=λσ H Q=>t σ H λc H1=>if c=true then u σ H1 Q else Q false H1
def tOr(t u:TT):TT:=λσ H Q=>t σ H λc H1=>if c=true then Q true H1 else u σ H1 Q
def aJ7(t:TT):TT:=λσ H Q=>t σ H λc H1=>Q (!c) H1
def m6(ha:PT X a tA):PW X (.BoolOp .And [a] pos) tA:=by
 intro wh pins s σ H Q I h;refine isTrue_and (dY (ha pins s σ H Q I h) λc s1 e=>?_);cases c with
 |true=>exact isTrue_and_nil e
 |false=>exact e
def oE(ha:PT X a tA):PW X (.BoolOp .Or [a] pos) tA:=by
 intro wh pins s σ H Q I h;refine isTrue_or (dY (ha pins s σ H Q I h) λc s1 e=>?_);cases c with
 |false=>exact isTrue_or_nil e
 |true=>exact e
def nh(ha:PT X a tA)(hb:PW X (.BoolOp .And (b::rest) pos) Cf):PW X (.BoolOp .And (a::b::rest) pos) (aK4 tA Cf):=by
 intro wh pins s σ H Q I h;refine isTrue_and (dY (ha pins s σ H _ I h) λc s1 ⟨H1,I1,q1⟩=>?_);cases c with
 |true=>exact hb wh pins s1 σ H1 Q I1 q1
 |false=>exact⟨H1,I1,q1⟩
def mF(ha:PT X a tA)(hb:PW X (.BoolOp .Or (b::rest) pos) Cf):PW X (.BoolOp .Or (a::b::rest) pos) (tOr tA Cf):=by
 intro wh pins s σ H Q I h;refine isTrue_or (dY (ha pins s σ H _ I h) λc s1 ⟨H1,I1,q1⟩=>?_);cases c with
 |true=>exact⟨H1,I1,q1⟩
 |false=>exact hb wh pins s1 σ H1 Q I1 q1
def uB(ha:PT X a tA):PT X (.UnaryOp .Not a pos) (aJ7 tA):=by
 intro pins s σ H Q I h;exact isTrue_not (wpAny_mono (ha pins s σ H (λc H1=>Q (!c) H1) I h) (λ_ _ ⟨a,b,c⟩=>⟨a,b,c⟩) λ_ _ x=>x)
inductive ag4(tb:TE)(σ:St)(Q:VK)(x:V)(H1:Hp):Prop|m(c)(_:x= .bl c)(_:if c=true then tb σ H1 Q else Q (.bl false) H1)
def aE0(ta tb:TE):TE:=λσ H Q=>ta σ H λx H1=>ag4 tb σ Q x H1
inductive ar6(tb:TE)(σ:St)(Q:VK)(x:V)(H1:Hp):Prop|m(c)(_:x= .bl c)(_:if c=true then Q (.bl true) H1 else tb σ H1 Q)
def aJ6(ta tb:TE):TE:=λσ H Q=>ta σ H λx H1=>ar6 tb σ Q x H1
inductive ag2(Q:VK)(x:V)(H1:Hp):Prop|m(c)(_:x= .bl c)(_:Q (.bl (!c)) H1)
def aD6(ta:TE):TE:=λσ H Q=>ta σ H λx H1=>ag2 Q x H1
def kh{op}{t:TE}(h:PE X a t):PE X (.BoolOp op [a] pos) t:=λpins s σ H Q I hw=>BoolOp_one (h pins s σ H Q I hw)
def mC(ha:PE X a ta)(hb:PE X (.BoolOp .And (b::rest) pos) tb):PE X (.BoolOp .And (a::b::rest) pos) (aE0 ta tb):=by
 intro pins s σ H Q I h;refine BoolOp_and (dY (ha pins s σ H _ I h) λv s1 ⟨x,H1,I1,r1,q1⟩=>?_);obtain⟨c,rfl,q1⟩:=q1;cases r1;refine wpAny_truthy_bool ?_;cases c with
 |true=>exact hb pins s1 σ H1 Q I1 q1
 |false=>exact⟨.bl false,H1,I1,rfl,q1⟩
def yG(ha:PE X a ta)(hb:PE X (.BoolOp .Or (b::rest) pos) tb):PE X (.BoolOp .Or (a::b::rest) pos) (aJ6 ta tb):=by
 intro pins s σ H Q I h;refine BoolOp_or (dY (ha pins s σ H _ I h) λv s1 ⟨x,H1,I1,r1,q1⟩=>?_);obtain⟨c,rfl,q1⟩:=q1;cases r1;refine wpAny_truthy_bool ?_;cases c with
 |false=>exact hb pins s1 σ H1 Q I1 q1
 |true=>exact⟨.bl true,H1,I1,rfl,q1⟩
def NW(ha:PE X a ta):PE X (.UnaryOp .Not a pos) (aD6 ta):=by
 intro pins s σ H Q I h;refine UnaryOp_ (dY (ha pins s σ H _ I h) λv s1 ⟨x,H1,I1,r1,q1⟩=>?_);obtain⟨c,rfl,q1⟩:=q1;cases r1;exact not_of (wpAny_truthy_bool ⟨.bl (!c),H1,I1,rfl,q1⟩)
def GY(t:TT)(ta tb:TE):TE:=λσ H Q=>t σ H λc H1=>if c=true then ta σ H1 Q else tb σ H1 Q
def gD{c:Expr}(hc:PT X c tA)(ha:PE X a ta)(hb:PE X b tb):PE X (.IfExp c a b pos) (GY tA ta tb):=by
 intro pins s σ H Q I h;refine wpAny_IfExp (dY (hc pins s σ H _ I h) λd s1 ⟨H1,I1,q1⟩=>?_);cases d with
 |true=>exact ha pins s1 σ H1 Q I1 q1
 |false=>exact hb pins s1 σ H1 Q I1 q1
end
def cU(K:b6)(H:Hp)(a:Addr)(xs:List V):Prop:=
 Rd H a (.lst xs)\/
  ∃(o:Obj) (c7:Array Value) (n:Nat),K.lookup a=some o/\o.cls= .type "list"/\o.dict=none/\o.data= .seq c7 n/\c7.size<=sizeLine/\Vals xs c7.toList
def e_(K:b6)(H:Hp)(a:Addr)(xs:List V):Prop:=
 Rd H a (.tup xs)\/
  ∃(o:Obj) (c7:Array Value) (n:Nat),K.lookup a=some o/\o.cls= .type "tuple"/\o.data= .seq c7 n/\c7.size<=sizeLine/\Vals xs c7.toList
def aR3:Value->Option V
 | .none=>some .dI
 | .bool b=>some (.bl b)
 | .int i _=>some (.int i)
 | .str x _=>some (.str x)
 | .bytes b _=>some (.kJ b)
 | .float b _=>some (.flt b)
 | .ref a=>some (.ref a)
 | .type n=>some (.ty n)
 |_=>none
def RelV.abs{x:V}{u:Value}(r:RelV x u):aR3 u=some x:=by
 cases x with
 |dI=>cases r;rfl
 |bl _=>cases r;rfl
 |int _=>obtain⟨t,rfl⟩:=r;rfl
 |str _=>obtain⟨t,rfl⟩:=r;rfl
 |kJ _=>obtain⟨t,rfl⟩:=r;rfl
 |flt _=>obtain⟨t,rfl⟩:=r;rfl
 |ref _=>cases r;rfl
 |ty _=>cases r;rfl
theorem RelV.inj{x y:V}{u:Value}(r:RelV x u)(q:RelV y u):x=y:=aH (r.abs.symm.trans q.abs)
theorem Vals.inj:∀{xs ys:List V} {us:List Value},Vals xs us->Vals ys us->xs=ys
 |_,_,_,.nil,.nil=>rfl
 |_,_,_,.cons r t,.cons r' t'=>by rw[r.inj r',Vals.inj t t']
section
variable {X:Cx}{pins:List (Addr×Obj)}{σ:St}{H:Hp}{s:Shared}{a:Addr}{xs ys:List V}
def cU.of{K:b6}(h:H a=some (.lst xs)):cU K H a xs:=.inl (.inl h)
def e_.of{K:b6}(h:H a=some (.tup xs)):e_ K H a xs:=.inl (.inl h)
def Inv.list(I:Inv X pins σ H s)(h:cU X.K H a xs):∃c7:List Value,Vals xs c7/\PlainL s.heap a c7.toArray/\xs.length<=sizeLine:=by
 rcases h with h|⟨o,c7,n,hk,hc,hd,hs,hz,r⟩
 .obtain⟨z,c7,n,r,e⟩:=h.ok I.hok;exact⟨c7,r,⟨_,n,e,rfl,rfl,rfl⟩,z⟩
 .refine⟨c7.toList,r,⟨o,n,I.kZ a o hk,hc,hd,by simpa using hs⟩,?_⟩;have e:=r.length;simp only[bR]at e;lia
def Inv.tuple(I:Inv X pins σ H s)(h:e_ X.K H a xs):∃c7:List Value,Vals xs c7/\IsTup s.heap a c7.toArray/\xs.length<=sizeLine:=by
 rcases h with h|⟨o,c7,n,hk,hc,hs,hz,r⟩
 .obtain⟨z,c7,r,p⟩:=h.ok I.hok;exact⟨c7,r,p,z⟩
 .refine⟨c7.toList,r,⟨o,I.kZ a o hk,hc,n,by simpa using hs⟩,?_⟩;have e:=r.length;simp only[bR]at e;lia
def Inv.LB(I:Inv X pins σ H s)(h:cU X.K H a xs)(h':cU X.K H a ys):xs=ys:=by
 obtain⟨c7,r,⟨o,n,e,_,_,d⟩,_⟩:=I.list h;obtain⟨its',r',⟨o',n',e',_,_,d'⟩,_⟩:=I.list h';rw[e]at e';cases e';rw[d]at d';injection d' with d1 _
 have:c7=its':=by simpa using cI Array.toList d1
 subst this;exact r.inj r'
def Inv.KA(I:Inv X pins σ H s)(h:e_ X.K H a xs)(h':e_ X.K H a ys):xs=ys:=by
 obtain⟨c7,r,⟨o,e,_,n,d⟩,_⟩:=I.tuple h;obtain⟨its',r',⟨o',e',_,n',d'⟩,_⟩:=I.tuple h';rw[e]at e';cases e';rw[d]at d';injection d' with d1 _
 have:c7=its':=by simpa using cI Array.toList d1
 subst this;exact r.inj r'
end
abbrev Cx.qB(X:Cx)(E:Value->Shared->Prop):Cx:={X with xe:=E}
abbrev Cx.jV(X:Cx):Cx:=X.qB λ_ _=>False
theorem Cx.Ok.qB{X:Cx}(ok:X.Ok)(E:Value->Shared->Prop):(X.qB E).Ok:=
 ⟨ok.mod,ok.kind,ok.glob,ok.blt,ok.above,ok.inj,ok.has,ok.vh,ok.hd,ok.frames,ok.stk,ok.ve,ok.bs,ok.qU,ok.wI,ok.uL,ok.lI,ok.tX⟩
def Cx.Ok.sC{X:Cx}{E:Value->Shared->Prop}(ok:(X.qB E).Ok):X.Ok:=
 ⟨ok.mod,ok.kind,ok.glob,ok.blt,ok.above,ok.inj,ok.has,ok.vh,ok.hd,ok.frames,ok.stk,ok.ve,ok.bs,ok.qU,ok.wI,ok.uL,ok.lI,ok.tX⟩
section
variable {X:Cx}{pins:List (Addr×Obj)}{σ:St}{H:Hp}{s:Shared}{E:Value->Shared->Prop}
theorem Inv.qB(I:Inv X pins σ H s)(E:Value->Shared->Prop):Inv (X.qB E) pins σ H s:=⟨I.ok.qB E,I.os,I.bare,I.base,I.loc,I.cell,I.free,I.mH,I.pin,I.hok,I.len⟩
theorem Inv.sC(I:Inv (X.qB E) pins σ H s):Inv X pins σ H s:=⟨I.ok.sC,I.os,I.bare,I.base,I.loc,I.cell,I.free,I.mH,I.pin,I.hok,I.len⟩
theorem SP.sC{D:Ends}{f:Flow}{s':Shared}(h:SP (X.qB E) pins D f s'):SP X pins D f s':=by
 cases f with
 |next=>obtain⟨σ',H',I,q⟩:=h;exact⟨σ',H',I.sC,q⟩
 |brk=>obtain⟨σ',H',I,q⟩:=h;exact⟨σ',H',I.sC,q⟩
 |cont=>obtain⟨σ',H',I,q⟩:=h;exact⟨σ',H',I.sC,q⟩
 |ret u=>obtain⟨v,σ',H',I,r,q⟩:=h;exact⟨v,σ',H',I.sC,r,q⟩
theorem gb.jV{st:List Stmt}{t:TS}(h:gb X.jV st t):gb X st t:=λpins s σ H D I hw=>
 wpAny_mono (h pins s σ H D (I.qB _) hw) (λ_ _ q=>q.sC) λ_ _ z=>False.elim z
end
section
variable {X:Cx}{st:Stmt}{rest:List Stmt}{t u:TS}{e:Expr}{te:TE}{pos:Pos}
def aD7:TS:=λD σ H=>D.nx σ H
def qC(t u:TS):TS:=λD σ H=>t {D with nx:=u D} σ H
def dX:gb X [] aD7:=λ_ _ σ H _ I h=>wpAny_execs_nil ⟨σ,H,I,h⟩
def cW(h1:PS X st t)(h2:gb X rest u):gb X (st::rest) (qC t u):=by
 intro pins s σ H D I h;refine wpAny_execs_cons (dY (h1 pins s σ H {D with nx:=u D} I h) λf s1 q=>?_);cases f with
 |next=>
  obtain⟨σ',H',I',q⟩:=q;exact h2 pins s1 σ' H' D I' q
 |ret v=>exact q
 |brk=>exact q
 |cont=>exact q
def cX(h1:PS X st t):gb X [st] t:=by
 intro pins s σ H D I h;refine wpAny_execs_cons (dY (h1 pins s σ H D I h) λf s1 q=>?_);cases f with
 |next=>exact wpAny_execs_nil q
 |ret v=>exact q
 |brk=>exact q
 |cont=>exact q
def Inv.quiet{pins:List (Addr×Obj)}{σ:St}{H:Hp}{s:Shared}(I:Inv X pins σ H s):interactive X.env=false:=by simp[interactive,I.ok.kind]
def aD9(te:TE):TS:=λD σ H=>te σ H λ_ H1=>D.nx σ H1
def iO(he:PE X e te)(hs:swapsWith e none pos.line X.env=pure false:=by rfl):PS X (.Expr e pos) (aD9 te):=by
 intro pins s σ H D I h;exact wpAny_Expr_any (dY (he pins s σ H _ I h) λv s1 ⟨x,H1,I1,r1,q1⟩=>⟨σ,H1,I1,q1⟩) I.quiet hs
def yS(te:TE):TS:=λD σ H=>te σ H D.rt
def dh(he:PE X e te):PS X (.Return (some e) pos) (yS te):=by
 intro pins s σ H D I h;exact wpAny_Return_some (dY (he pins s σ H _ I h) λv s1 ⟨x,H1,I1,r1,q1⟩=>⟨x,σ,H1,I1,r1,q1⟩)
def aJ9(c:TT)(t u:TS):TS:=λD σ H=>c σ H λb H1=>if b=true then t D σ H1 else u D σ H1
def dO{c:Expr}{a b:List Stmt}{tc:TT}(hc:PT X c tc)(ha:gb X a t)(hb:gb X b u):PS X (.If c a b pos) (aJ9 tc t u):=by
 intro pins s σ H D I h;refine wpAny_If (dY (hc pins s σ H _ I h) λd s1 ⟨H1,I1,q1⟩=>?_);cases d with
 |true=>exact ha pins s1 σ H1 D I1 q1
 |false=>exact hb pins s1 σ H1 D I1 q1
end
abbrev TG:=V->St->Hp->(St->Hp->Prop)->Prop
abbrev xK:=List V->St->Hp->(St->Hp->Prop)->Prop
def PG(X:Cx)(target:Expr)(t:TG):Prop:=
 ∀(pins:List (Addr×Obj)) (s:Shared) (σ:St) (H:Hp) (v:V) (u:Value) (Q:St->Hp->Prop),Inv X pins σ H s->RelV v u->t v σ H Q->
  wpAny (model X.prog X.w) X.A (assign target X.env u) (λ_ s'=>∃σ' H',Inv X pins σ' H' s'/\Q σ' H') X.xe s
def C8(X:Cx)(ts:List Expr)(t:xK):Prop:=
 ∀(pins:List (Addr×Obj)) (s:Shared) (σ:St) (H:Hp) (vs:List V) (us:List Value) (Q:St->Hp->Prop),Inv X pins σ H s->Vals vs us->t vs σ H Q->
  wpAny (model X.prog X.w) X.A (assignInOrder ((assignEach ts X.env).map (·.2)) us) (λ_ s'=>∃σ' H',Inv X pins σ' H' s'/\Q σ' H') X.xe s
abbrev IE:=V->V->Hp->VK->Prop
def IG(X:Cx)(op:Operator)(t:IE):Prop:=
 ∀(pins:List (Addr×Obj)) (s:Shared) (σ:St) (H:Hp) (x y:V) (v u:Value) (Q:VK),Inv X pins σ H s->RelV x v->RelV y u->t x y H Q->
  wpAny (model X.prog X.w) X.A (inplaceOp op v u) (EP X pins σ Q) X.xe s
section
variable {X:Cx}{pos:Pos}
def rB(i:Nat):TG:=λv σ H Q=>Q (σ.set i (some v)) H
def ai5{i:Nat}{x:Str}(hN:X.N.Nodup)(hi:X.N[i]? =some x)(hx:Loc X.env.scope x)(hf:X.fn x=true\/X.env.scope.names.lookup x=some .local:=by exact ∅):PG X (.Name x pos) (rB i):=by
 intro pins s σ H v u Q I r h;exact wpAny_assign_Name (Es I hN hi hx r (λs' I'=>⟨_,H,I',h⟩) hf)
def fF{i:Nat}{x:Str}(hN:X.N.Nodup)(hf:X.fn x=true\/X.env.scope.names.lookup x=some .local:=by exact ∅)(hi:X.N[i]? =some x:=by exact rfl)(hx:Loc X.env.scope x:=by exact .inl rfl):PG X (.Name x pos) (rB i):=ai5 hN hi hx hf
def aQ5:xK:=λvs σ H Q=>vs=[]/\Q σ H
inductive aI4(t:TG)(u:xK)(vs:List V)(σ:St)(H:Hp)(Q:St->Hp->Prop):Prop|m(v r)(_:vs=v::r)(_:t v σ H λσ' H'=>u r σ' H' Q)
def ux:C8 X [] aQ5:=by
 intro pins s σ H vs us Q I r h;obtain⟨e,h⟩:=h;subst e;cases r;exact assignInOrder_nil ⟨σ,H,I,h⟩
def lA{e:Expr}{es:List Expr}{t:TG}{u:xK}(h1:PG X e t)(h2:C8 X es u)
  (hs:(assignEach (e::es) X.env).map (·.2)=assign e X.env::(assignEach es X.env).map (·.2):=by rfl):C8 X (e::es) (aI4 t u):=by
 intro pins s σ H vs us Q I r h;obtain⟨v,vr,e1,h⟩:=h;subst e1;cases r with
 |cons r rr=>
  rw[hs];refine assignInOrder_cons (dY (h1 pins s σ H _ _ _ I r h) λ_ s1 ⟨σ1,H1,I1,q1⟩=>?_);exact h2 pins s1 σ1 H1 _ _ Q I1 rr q1
inductive RN(K:b6)(n:Nat)(t:xK)(v:V)(σ:St)(H:Hp)(Q:St->Hp->Prop):Prop|m(a xs)(_:v= .ref a)(_:e_ K H a xs)(_:xs.length=n)(_:t xs σ H Q)
def uD{es:List Expr}{k:Nat}{t:xK}{n:Nat}(hc:X.calm=true)(h:C8 X es t)
  (hn:(assignEach es X.env).length=n:=by rfl)(mS:(assignEach es X.env).findIdx? (·.1)=none:=by rfl):PG X (.Tuple es k pos) (RN X.K n t):=by
 intro pins s σ H v u Q I r hw;obtain⟨a,xs,e1,hq,hl,hw⟩:=hw;subst e1;cases r;obtain⟨c7,rv,ht,hz⟩:=I.tuple hq;refine assign_Tuple_tuple (I.ok.hd hc) ht (by simp[hn,<-hl,rv.length]) mS λh' hx=>?_;have I1:Inv X pins σ H {s with heap:=h'}:=I.kept (t':=s.toks) λb o e=>hx b o (b5 (cj e)) e;exact h pins _ σ H xs _ Q I1 (by simpa using rv) hw
def yT(te:TE)(g:TG):TS:=λD σ H=>te σ H λx H1=>g x σ H1 D.nx
def au3{i:Nat}{x:Str}{e:Expr}{te:TE}{pos':Pos}(hN:X.N.Nodup)(hi:X.N[i]? =some x)(hx:Loc X.env.scope x)(he:PE X e te)(hs:swapsWith e (some (.Name x pos')) pos.line X.env=pure false:=by rfl)(hf:X.fn x=true\/X.env.scope.names.lookup x=some .local:=by exact ∅):
  PS X (.Assign [.Name x pos'] e pos) (yT te (rB i)):=by
 intro pins s σ H D I h;refine wpAny_Assign_Name (dY (he pins s σ H _ I h) λv s1 ⟨y,H1,I1,r1,q1⟩=>?_) hs;exact Es I1 hN hi hx r1 (λs2 I2=>⟨_,H1,I2,q1⟩) hf
inductive aK3(i:Nat)(te:TE)(ti:IE)(D:Ends)(σ:St)(H:Hp):Prop|m(x)(_:σ[i]? =some (some x))(_:te σ H λy H1=>ti x y H1 λz H2=>D.nx (σ.set i (some z)) H2)
def dN{i:Nat}{x:Str}{e:Expr}{te:TE}{pos':Pos}(hN:X.N.Nodup)(he:PE X e te)(hi:X.N[i]? =some x:=by exact rfl)(hx:Loc X.env.scope x:=by exact .inl rfl)(hs:swapsWith e (some (.Name x pos')) pos.line X.env=pure false:=by rfl)(hf:X.fn x=true\/X.env.scope.names.lookup x=some .local:=by exact ∅):PS X (.Assign [.Name x pos'] e pos) (yT te (rB i)):=au3 hN hi hx he hs hf
def mz{i:Nat}{x:Str}{e:Expr}{te:TE}{op:Operator}{ti:IE}{pos':Pos}(hN:X.N.Nodup)(hi:X.N[i]? =some x)(hx:Loc X.env.scope x)(he:PE X e te)(ho:IG X op ti)(hf:X.fn x=true\/X.env.scope.names.lookup x=some .local:=by exact ∅):
  PS X (.AugAssign (.Name x pos') op e pos) (aK3 i te ti):=by
 intro pins s σ H D I h;obtain⟨v,e1,h⟩:=h;obtain⟨m,hn,hl⟩:=I.loc;have vis:xJ X.env.scope x:=by rcases hx with k|k;exact .inl k;exact .inr (.inl k)
 obtain⟨u,r,l⟩:=hl i x v hi e1 vis;refine wpAny_AugAssign_Name ?_;have go:wpAny (model X.prog X.w) X.A (eval e X.env) (λw s₂=>wpAny (model X.prog X.w) X.A (inplaceOp op u w) (λr s₃=>wpAny (model X.prog X.w) X.A (storeName X.env x r) (λ_=>SP X pins D .next) X.xe s₃) X.xe s₂) X.xe s:=by
  refine dY (he pins s σ H _ I h) λw s1 ⟨y,H1,I1,r1,q1⟩=>?_;refine dY (ho pins s1 σ H1 v y u w _ I1 r r1 q1) λz s2 ⟨zv,H2,I2,r2,q2⟩=>?_;exact Es I2 hN hi hx r2 (λs3 I3=>⟨_,H2,I3,q2⟩) hf
 rcases l with⟨hk,hm⟩|⟨hk,c,hc,oM⟩
 .exact wpAny_loadName_local I.ok.kind hk hn hm go
 .rcases hk with hk|hk
  .exact wpAny_loadName_cell I.ok.kind hk hc oM go
  .rcases hx with k|k
   .have:X.env.scope.names.lookup x=some .free:=hk;rw[k]at this;cases this
   .have:X.env.scope.names.lookup x=some .free:=hk;rw[k]at this;cases this
inductive Sl(f:Int->Int->Int)(x:V)(y:V)(H:Hp)(Q:VK):Prop|m(i j)(_:x= .int i)(_:y= .int j)(_:Q (.int (f i j)) H)
def qm:IG X .Add (Sl λi j=>i+j):=by
 intro pins s σ H x y v u Q I r1 r2 h;obtain⟨i,j,e1,e2,q⟩:=h;subst e1;subst e2;obtain⟨t,rfl⟩:=r1;obtain⟨t',rfl⟩:=r2;exact iadd_int ⟨.int _,H,I.tok _,⟨_,rfl⟩,q⟩
def Ob:IG X .Sub (Sl λi j=>i-j):=by
 intro pins s σ H x y v u Q I r1 r2 h;obtain⟨i,j,e1,e2,q⟩:=h;subst e1;subst e2;obtain⟨t,rfl⟩:=r1;obtain⟨t',rfl⟩:=r2;exact isub_int ⟨.int _,H,I.tok _,⟨_,rfl⟩,q⟩
end
section
variable {X:Cx}{pos:Pos}
inductive M_(c:TT)(tb:TS)(D:Ends)(σ:St)(H:Hp):Prop|m(W:Nat->St->Hp->Prop)(_:(∃m,W m σ H))(_:∀m σ H,W m σ H->c σ H λb H1=>if b=true then ∃N:St->Hp->Prop,(∀σ' H',N σ' H'->∃m',m'<m/\W m' σ' H')/\tb {D with nx:=N,ct:=N,bk:=D.nx} σ H1 else D.nx σ H1)
def r_{c:Expr}{body:List Stmt}{tc:TT}{tb:TS}(hp:PassesOwn (model X.prog X.w) X.A X.env X.xe)(hc:PT X c tc)(hb:gb X body tb):PS X (.While c body [] pos) (M_ tc tb):=by
 intro pins s σ H D I h;obtain⟨W,⟨m0,w0⟩,turn⟩:=h;refine wpAny_While (codeAny_whileLoop (λn s'=>∃σ' H',Inv X pins σ' H' s'/\W n σ' H') ?_ m0 ⟨σ,H,I,w0⟩);rintro n s1 ⟨σ1,H1,I1,w1⟩;refine wpAny_passesOwn hp (dY (hc pins s1 σ1 H1 _ I1 (turn n σ1 H1 w1)) λb s2 ⟨H2,I2,q2⟩=>?_);cases b with
 |true=>
  obtain⟨N,hN,q2⟩:=q2;rw[ah rfl];refine wpAny_passesOwn hp (dY (hb pins s2 σ1 H2 _ I2 q2) λf s3 q3=>?_);cases f with
  |next=>
   obtain⟨σ3,H3,I3,n3⟩:=q3;obtain⟨m',hm,w3⟩:=hN σ3 H3 n3;exact⟨m',hm,σ3,H3,I3,w3⟩
  |cont=>
   obtain⟨σ3,H3,I3,n3⟩:=q3;obtain⟨m',hm,w3⟩:=hN σ3 H3 n3;exact⟨m',hm,σ3,H3,I3,w3⟩
  |brk=>exact q3
  |ret v=>exact q3
 |false=>
  rw[aa a_];exact wpAny_execs_nil ⟨σ1,H2,I2,q2⟩
end
structure It where
 go:Nat->Hp->Prop
 jS:Nat->Hp->V->Hp->Prop
 stop:Nat->Hp->Prop
def lP(X:Cx)(pins:List (Addr×Obj))(H:Hp)(b:Addr):Prop:=
 H b=none/\b≠X.env.locals/\b∉X.fs/\(b∈X.ex\/X.iw.heap.objs.size<=b)/\(∀x c,X.env.cells.lookup x=some c->c≠b)/\∀p∈X.pn++pins,p.1≠b
def Inv.sW{X:Cx}{pins:List (Addr×Obj)}{σ:St}{H H':Hp}{s:Shared}{b:Addr}(I:Inv X pins σ H s)(hb:s.heap.objs.size<=b)(hn:H' b=none):lP X pins H' b:=by
 refine⟨hn,Nat.ne_of_gt (bA I.lt hb),I.aM0 hb,.inr (aV I.sz hb),λx c e z=>?_,λp hp z=>?_⟩
 .obtain⟨v,q⟩:=I.cell x c e;exact cJ (bA q.lt (by rw[z];exact hb)) (Nat.lt_irrefl _)
 .exact cJ (bA (cj (I.pin p hp).1) (by rw[z];exact hb)) (Nat.lt_irrefl _)
structure Turn(P:Program)(w:World)(K:b6)(tg:Expr)(J:It)(fp:List Addr)(it:Addr)(tn:Nat->Heap->Prop):Prop where
 mem:it∈fp
 obj:∀i h,tn i h->∀b∈fp,∃o,h.get? b=some o/\∀v,o.data≠.cell v
 keep:∀i h h',tn i h->(∀b∈fp,∀o,h.get? b=some o->h'.get? b=some o)->tn i h'
 item:∀(X:Cx),X.prog=P->X.w=w->X.K=K->X.calm=true->∀(i:Nat) (pins:List (Addr×Obj)) (s:Shared) (σ:St) (H:Hp) (E:Value->Shared->Prop),Inv X pins σ H s->(∀b∈fp,lP X pins H b)->tn i s.heap->J.go i H->
  wpAny (model P w) X.A (pyNext (.ref it)) (λr s1=>∃u,r=some u/\
   wpAny (model P w) X.A (letOwnedTupleGo tg (.ref it) u) (λ_ s2=>∃x H',Inv X pins σ H' s2/\RelV x u/\J.jS i H x H'/\tn (i+1) s2.heap/\∀b∈fp,H' b=none) E s1) E s
 done:∀(X:Cx),X.prog=P->X.w=w->X.K=K->X.calm=true->∀(i:Nat) (pins:List (Addr×Obj)) (s:Shared) (σ:St) (H:Hp) (E:Value->Shared->Prop),Inv X pins σ H s->(∀b∈fp,lP X pins H b)->tn i s.heap->J.stop i H->
  wpAny (model P w) X.A (pyNext (.ref it)) (λr s1=>r=none/\Inv X pins σ H s1) E s
 self:∀(A:Around) (i:Nat) (s:Shared) (Q:Value->Shared->Prop) (E:Value->Shared->Prop),tn i s.heap->Q (.ref it) s->wpAny (model P w) A (pyIter (.ref it)) Q E s
abbrev TI:=St->Hp->(It->Hp->Prop)->Prop
inductive II(X:Cx)(pins:List (Addr×Obj))(σ:St)(tg:Expr)(R:It->Hp->Prop)(Cq:Value)(s2:Shared):Prop|m(it:Addr)(fp:List Addr)(tn:Nat->Heap->Prop)(J:It)(H':Hp)(_:Cq= .ref it)(_:Inv X pins σ H' s2)(_:Turn X.prog X.w X.K tg J fp it tn)(_:tn 0 s2.heap)(_:(∀b∈fp,lP X pins H' b))(_:R J H')
def PI(X:Cx)(tg iter:Expr)(wi:TI):Prop:=
 ∀(pins:List (Addr×Obj)) (s:Shared) (σ:St) (H:Hp) (R:It->Hp->Prop),Inv X pins σ H s->wi σ H R->
  wpAny (model X.prog X.w) X.A (eval iter X.env) (λv s1=>wpAny (model X.prog X.w) X.A (pyIter v) (II X pins σ tg R) X.xe s1) X.xe s
theorem yK {M : Model} {A : Around} {E : Value → Shared → Prop} {s : Shared} {tg : Expr} {it : Addr} {u : Value} {o : Obj} {n : String} {vs : Array Value} {Q : Unit → Shared → Prop} (ho : s.heap.get? it = some o) (hc : o.cls = .type n) (hd : o.data = .fields vs)
    (hn : ["enumerate", "zip", "dict_itemiterator", "dict_reverseitemiterator", "odict_iterator", "itertools.zip_longest", "itertools.pairwise"].contains n = false) (hQ : Q Unit.unit s) : wpAny M A (letOwnedTupleGo tg (.ref it) u) Q E s := by
  unfold letOwnedTupleGo
  cases tg <;> first
    | exact b9 hQ
    | (cases u <;> first
        | exact b9 hQ
        | (refine b8 (wpAny_load ho ?_)
           rw [hc, hd]
           show wpAny M A (if (["enumerate", "zip", "dict_itemiterator", "dict_reverseitemiterator", "odict_iterator", "itertools.zip_longest", "itertools.pairwise"].contains n && vs[0]? == some (rawInt _)) = true then _ else _) Q E s
           rw [aa (by intro h; rw [hn, aZ] at h; cases h)]
           exact b9 hQ))
def pU(K:b6)(a:Addr):It:=
 ⟨λi H=>∃xs x,cU K H a xs/\xs[i]? =some x,λi H x H'=>H'=H/\∀xs,cU K H a xs->xs[i]? =some x,λi H=>∃xs,cU K H a xs/\xs.length<=i⟩
def Ad(K:b6)(a:Addr):It:=
 ⟨λi H=>∃xs x,e_ K H a xs/\xs[i]? =some x,λi H x H'=>H'=H/\∀xs,e_ K H a xs->xs[i]? =some x,λi H=>∃xs,e_ K H a xs/\xs.length<=i⟩
def xN(lo:Int)(n:Nat):It:=⟨λi _=>i<n,λi H x H'=>H'=H/\x= .int (lo+i),λi _=>n<=i⟩
def YI{P:Program}{w:World}{K:b6}{tg:Expr}(a it:Addr):Turn P w K tg (pU K a) [it] it (λi h=>h.IsListIter it a i) where
 mem:=by simp
 obj:=λi h st b hb=>by
  have e:b=it:=by simpa using hb
  subst e;obtain⟨o,e,c,d⟩:=st;exact⟨o,e,λv z=>by rw[d]at z;cases z⟩
 keep:=λi h h' st k=>st.at λo e=>k it (by simp) o e
 item:=by
  intro X hP hw hK hc i pins s σ H E I hf st hg;subst hP hw hK;obtain⟨xs,x,hq,hx⟩:=hg;obtain⟨c7,rv,p,hz⟩:=I.list hq;obtain⟨u,hu,ru⟩:=rv.get hx;obtain⟨f0,f1,f2,f3,f4,f5⟩:=hf it (by simp);refine wpAny_pyNext_list_item st p.isList (x:=u) (by simpa using hu) λh' lQ sb=>?_;have I1:Inv X pins σ H {s with heap:=h'}:=I.turned (t':=s.toks) (λb o hb e=>(sb.2 b hb).trans e) f0 f1 f3 f4 f5;obtain⟨o,e,c,d⟩:=id lQ;exact⟨u,rfl,yK (s:={s with heap:=h'}) e c d () ⟨x,H,I1,ru,⟨rfl,λys hy=>by rw[I.LB hy hq];exact hx⟩,lQ,λb hb=>(hf b hb).1⟩⟩
 done:=by
  intro X hP hw hK hc i pins s σ H E I hf st hg;subst hP hw hK;obtain⟨xs,hq,hx⟩:=hg;obtain⟨c7,rv,p,hz⟩:=I.list hq;obtain⟨f0,f1,f2,f3,f4,f5⟩:=hf it (by simp);have hl:=rv.length;exact wpAny_pyNext_list_end (I.ok.hd hc) st p.isList (by simp;lia) λh' eb=>⟨rfl,I.turned (t':=s.toks) (λb o hb e=>eb b o hb e) f0 f1 f3 f4 f5⟩
 self:=λ_ _ _ _ _ st h=>wpAny_pyIter_listiter st h
def X0{P:Program}{w:World}{K:b6}{tg:Expr}(a it:Addr):Turn P w K tg (Ad K a) [it] it (λi h=>h.IsTupleIter it a i) where
 mem:=by simp
 obj:=λi h st b hb=>by
  have e:b=it:=by simpa using hb
  subst e;obtain⟨o,e,c,d⟩:=st;exact⟨o,e,λv z=>by rw[d]at z;cases z⟩
 keep:=λi h h' st k=>st.at λo e=>k it (by simp) o e
 item:=by
  intro X hP hw hK hc i pins s σ H E I hf st hg;subst hP hw hK;obtain⟨xs,x,hq,hx⟩:=hg;obtain⟨c7,rv,p,hz⟩:=I.tuple hq;obtain⟨u,hu,ru⟩:=rv.get hx;obtain⟨f0,f1,f2,f3,f4,f5⟩:=hf it (by simp);refine wpAny_pyNext_tuple_item st (show s.heap.IsTuple a c7.toArray from p) (x:=u) (by simpa using hu) λh' lQ sb=>?_;have I1:Inv X pins σ H {s with heap:=h'}:=I.turned (t':=s.toks) (λb o hb e=>(sb.2 b hb).trans e) f0 f1 f3 f4 f5;obtain⟨o,e,c,d⟩:=id lQ;exact⟨u,rfl,yK (s:={s with heap:=h'}) e c d () ⟨x,H,I1,ru,⟨rfl,λys hy=>by rw[I.KA hy hq];exact hx⟩,lQ,λb hb=>(hf b hb).1⟩⟩
 done:=by
  intro X hP hw hK hc i pins s σ H E I hf st hg;subst hP hw hK;obtain⟨xs,hq,hx⟩:=hg;obtain⟨c7,rv,p,hz⟩:=I.tuple hq;obtain⟨f0,f1,f2,f3,f4,f5⟩:=hf it (by simp);have hl:=rv.length;exact wpAny_pyNext_tuple_end (I.ok.hd hc) st (show s.heap.IsTuple a c7.toArray from p) (by simp;lia) λh' eb=>⟨rfl,I.turned (t':=s.toks) (λb o hb e=>eb b o hb e) f0 f1 f3 f4 f5⟩
 self:=λ_ _ _ _ _ st h=>wpAny_pyIter_tupleiter st h
def X3{P:Program}{w:World}{K:b6}{tg:Expr}(it:Addr)(lo:Int)(n:Nat):Turn P w K tg (xN lo n) [it] it (λi h=>IsRangeIter h it (lo+(i:Nat)*1) ((n:Int)-(i:Nat)) 1) where
 mem:=by simp
 obj:=λi h st b hb=>by
  have e:b=it:=by simpa using hb
  subst e;exact⟨_,st,λv z=>by
   have z':Data.fields _=Data.cell v:=z;cases z'⟩
 keep:=λi h h' st k=>k it (by simp) _ st
 item:=by
  intro X hP hw hK hc i pins s σ H E I hf st hg;subst hP hw hK;obtain⟨f0,f1,f2,f3,f4,f5⟩:=hf it (by simp);have W:=Walks.range (prog:=X.prog) (w:=X.w) (I.ok.hd hc) it lo 1 n;refine W.item i s _ _ hg st λv h' tk hv lQ kk=>?_;obtain⟨t,rfl⟩:=hv;have I1:Inv X pins σ H {s with heap:=h',toks:=tk}:=I.turned (λb o hb e=>kk b o (by simpa using hb) e) f0 f1 f3 f4 f5;refine⟨_,rfl,yK (s:={s with heap:=h',toks:=tk}) (n:="range_iterator") lQ rfl rfl () ⟨.int (lo+i),H,I1,⟨t,?_⟩,⟨rfl,rfl⟩,lQ,λb hb=>(hf b hb).1⟩⟩;rw[Int.mul_one]
 done:=by
  intro X hP hw hK hc i pins s σ H E I hf st hg;subst hP hw hK;obtain⟨f0,f1,f2,f3,f4,f5⟩:=hf it (by simp);exact wpAny_pyNext_range_end (I.ok.hd hc) st (by have:n<=i:=hg;lia) λh' eb=>⟨rfl,I.turned (t':=s.toks) (λb o hb e=>eb b o hb e) f0 f1 f3 f4 f5⟩
 self:=λ_ _ _ _ _ st h=>wpAny_pyIter_rangeiter st h
section
variable {X:Cx}{tg:Expr}
inductive am8(K:b6)(R:It->Hp->Prop)(x:V)(H1:Hp):Prop|m(a)(_:x= .ref a)(_:(∃xs,cU K H1 a xs))(_:R (pU K a) H1)
def aH4(K:b6)(tl:TE):TI:=λσ H R=>tl σ H λx H1=>am8 K R x H1
inductive aB1(K:b6)(R:It->Hp->Prop)(x:V)(H1:Hp):Prop|m(a)(_:x= .ref a)(_:(∃xs,e_ K H1 a xs))(_:R (Ad K a) H1)
def aM4(K:b6)(tl:TE):TI:=λσ H R=>tl σ H λx H1=>aB1 K R x H1
def gR{l:Expr}{tl:TE}(hl:PE X l tl):PI X tg l (aH4 X.K tl):=by
 intro pins s σ H R I h;refine dY (hl pins s σ H _ I h) λv s1 ⟨x,H1,I1,r1,q1⟩=>?_;obtain⟨a,e,⟨xs,hq⟩,q⟩:=q1;subst e;cases r1;obtain⟨c7,rv,p,hz⟩:=I1.list hq;refine wpAny_pyIter_list p.isList ?_;refine⟨s1.heap.objs.size,[s1.heap.objs.size],_,_,H1,rfl,I1.kept (t':=s1.toks) λb o e=>b_ _ e,YI a _,⟨_,cu _ rfl,rfl,rfl⟩,λb hb=>?_,q⟩;have e:b=s1.heap.objs.size:=by simpa using hb
 subst e;exact I1.sW (aI _) (I1.hok.fresh (aI _))
def au5{l:Expr}{tl:TE}(hl:PE X l tl):PI X tg l (aM4 X.K tl):=by
 intro pins s σ H R I h;refine dY (hl pins s σ H _ I h) λv s1 ⟨x,H1,I1,r1,q1⟩=>?_;obtain⟨a,e,⟨xs,hq⟩,q⟩:=q1;subst e;cases r1;obtain⟨c7,rv,p,hz⟩:=I1.tuple hq;refine wpAny_pyIter_tuple (show s1.heap.IsTuple a c7.toArray from p) ?_;refine⟨s1.heap.objs.size,[s1.heap.objs.size],_,_,H1,rfl,I1.kept (t':=s1.toks) λb o e=>b_ _ e,X0 a _,⟨_,cu _ rfl,rfl,rfl⟩,λb hb=>?_,q⟩;have e:b=s1.heap.objs.size:=by simpa using hb
 subst e;exact I1.sW (aI _) (I1.hok.fresh (aI _))
def aa1{pins:List (Addr×Obj)}{σ:St}{H:Hp}{s:Shared}{R:It->Hp->Prop}{E:Value->Shared->Prop}{lo hi:Int}{t u v:Tok}{tk:Nat}(I:Inv X pins σ H s)(h1: -(2^62)<=lo)(h2:lo<2^62)(h3: -(2^62)<=hi)(h4:hi<2^62)
  (q:R (xN lo (hi-lo).toNat) H):wpAny (model X.prog X.w) X.A (pyIter (.ref s.heap.objs.size)) (II X pins σ tg R) E {s with heap:=s.heap.push {cls:=.type "range",data:=.fields #[.int lo t,.int hi u,.int 1 v]},toks:=tk}:=by
 refine wpAny_pyIter_range (IsRange.new ..) (small_one h1 h2 h3 h4) ?_;have I1:Inv X pins σ H {s with heap:=s.heap.push {cls:=.type "range",data:=.fields #[.int lo t,.int hi u,.int 1 v]},toks:=tk}:=I.kept λb o e=>b_ _ e;refine⟨(s.heap.push {cls:=.type "range",data:=.fields #[.int lo t,.int hi u,.int 1 v]}).objs.size,[(s.heap.push {cls:=.type "range",data:=.fields #[.int lo t,.int hi u,.int 1 v]}).objs.size],_,_,H,rfl,
  I1.kept (t':=tk) λb o e=>b_ _ e,X3 _ lo (hi-lo).toNat,?_,λb hb=>?_,q⟩
 .have e1:lo+((0:Nat):Int)*1=lo:=by simp
  have e2:(((hi-lo).toNat:Nat):Int)-((0:Nat):Int)=Builtin.Range.rangeSize lo hi 1:=by rw[rangeSize_one];split<;>lia
  show IsRangeIter _ _ (lo+((0:Nat):Int)*1) ((((hi-lo).toNat:Nat):Int)-((0:Nat):Int)) 1;rw[e1,e2];exact cu _ rfl
 .have e:b=(s.heap.push {cls:=.type "range",data:=.fields #[.int lo t,.int hi u,.int 1 v]}).objs.size:=by simpa using hb
  subst e;exact I1.sW (aI _) (I1.hok.fresh (aI _))
inductive am7(R:It->Hp->Prop)(vs:List V)(H1:Hp):Prop|m(j:Int)(_:vs=[.int j])(_: -(2^62)<=j)(_:j<2^62)(_:R (xN 0 j.toNat) H1)
def aH3(ta:TA):TI:=λσ H R=>ta σ H λvs H1=>am7 R vs H1
def YV{a:Expr}{ta:TA}{p pos:Pos}(hg:Gl X "range")(hm:X.mg "range"=none)(ha:PA X [a] ta)(hs:starEach [a] X.env=[(false,eval a X.env)]:=by rfl):PI X tg (.Call (.Name "range" p) [a] [] pos) (aH3 ta):=by
 intro pins s σ H R I h;refine Call_ (yu I hg hm boot_range (PyProof.Rows.callWith_type1 (dY (ha pos pins s σ H _ I h) λus s1 ⟨vs,H1,I1,r1,q1⟩=>?_) hs rfl));obtain⟨j,e,q1,q2,q⟩:=q1;subst e;cases r1 with
 |cons r rr=>
  cases rr;obtain⟨t,rfl⟩:=r;exact call_range_1 (aa1 I1 () () q1 q2 (by simpa using q))
def aK0(wi:TI)(g:TG)(tb:TS):TS:=λD σ H=>wi σ H λJ H1=>∃W:Nat->Nat->St->Hp->Prop,(∃m,W 0 m σ H1)/\∀i m σ H,W i m σ H->
 (J.stop i H/\D.nx σ H)\/(J.go i H/\∃N:St->Hp->Prop,(∀σ' H',N σ' H'->∃m',m'<m/\W (i+1) m' σ' H')/\∀x H',J.jS i H x H'->g x σ H' λσ2 H2=>tb {D with nx:=N,ct:=N,bk:=D.nx} σ2 H2)
def qk(fp:List Addr)(h:Heap):List (Addr×Obj):=fp.filterMap λb=>(h.get? b).map λo=>(b,o)
def vC{fp:List Addr}{h:Heap}{b:Addr}{o:Obj}(hb:b∈fp)(e:h.get? b=some o):(b,o)∈qk fp h:=List.mem_filterMap.mpr ⟨b,hb,by rw[e];rfl⟩
def Y4{fp:List Addr}{h:Heap}{p:Addr×Obj}(hp:p∈qk fp h):p.1∈fp/\h.get? p.1=some p.2:=by
 obtain⟨b,hb,e⟩:=List.mem_filterMap.mp hp;cases q:h.get? b with
 |none=>rw[q]at e;cases e
 |some o=>
  rw[q]at e;have e':(b,o)=p:=aH e;subst e';exact⟨hb,q⟩
def Inv.pinned{pins:List (Addr×Obj)}{σ:St}{H:Hp}{s:Shared}{fp:List Addr}(I:Inv X pins σ H s)(hf:∀b∈fp,lP X pins H b)(ho:∀b∈fp,∃o,s.heap.get? b=some o/\∀v,o.data≠.cell v):Inv X (pins++qk fp s.heap) σ H s:=
 I.Mz λp hp=>(List.mem_append.mp hp).elim (λz=>I.pin p (bD _ z)) λz=>by
  obtain⟨hb,e⟩:=Y4 z;obtain⟨f0,f1,f2,_⟩:=hf p.1 hb;obtain⟨o,e',d⟩:=ho p.1 hb;rw[e]at e';cases e';exact⟨e,f0,f1,f2,d⟩
def Inv.x_{pins pl:List (Addr×Obj)}{σ:St}{H:Hp}{s:Shared}(I:Inv X (pins++pl) σ H s):Inv X pins σ H s:=I.Mz λp hp=>I.pin p (bD _ (bE _ hp))
def kN{iter:Expr}{body:List Stmt}{wi:TI}{g:TG}{tb:TS}{pos:Pos}(hp:PassesOwn (model X.prog X.w) X.A X.env X.xe)(hc:X.calm=true)(hi:PI X tg iter wi)(hg:PG X tg g)(hb:gb X body tb)
  (hs:∀x,foldedSetIterable iter X.env x=pure x:=by intro _;rfl):PS X (.For tg iter body [] pos) (aK0 wi g tb):=by
 intro pins s σ H D I h;refine wpAny_For (dY (hi pins s σ H _ I h) λv s1 h1=>dY h1 λCq s2 h2=>?_) hs;obtain⟨it,fp,tn,J,H2,e,I2,T,uO,f2,W,⟨m0,w0⟩,turn⟩:=h2;subst e;have oY:∀{H':Hp},(∀b∈fp,H' b=none)->∀b∈fp,lP X pins H' b:=λhn b hb=>⟨hn b hb,(f2 b hb).2⟩;refine codeAny_forLoop_any (λn s'=>∃i σ' H',Inv X pins σ' H' s'/\tn i s'.heap/\(∀b∈fp,H' b=none)/\W i n σ' H') ?_ m0 ⟨0,σ,H2,I2,uO,λb hb=>(f2 b hb).1,w0⟩;rintro n s3 ⟨i,σ3,H3,I3,wN,Tu,w3⟩;rcases turn i n σ3 H3 w3 with⟨stop,qn⟩|⟨go,N,hN,step⟩
 .refine wpAny_passesOwn hp (dY (T.done X rfl rfl rfl hc i pins s3 σ3 H3 X.xe I3 (oY Tu) wN stop) λr s4 ⟨hr,I4⟩=>?_);subst hr;exact wpAny_execs_nil ⟨σ3,H3,I4,qn⟩
 .refine wpAny_passesOwn hp (dY (T.item X rfl rfl rfl hc i pins s3 σ3 H3 X.xe I3 (oY Tu) wN go) λr s4 ⟨u,hr,h4⟩=>?_);subst hr;refine wpAny_passesOwn hp (dY h4 λ_ s5 ⟨x,H5,I5,r5,y5,rM,fr5⟩=>?_);have I5':=I5.pinned (oY fr5) (T.obj _ _ rM);refine wpAny_passesOwn hp (dY (hg _ s5 σ3 H5 x u _ I5' r5 (step x H5 y5)) λ_ s6 ⟨σ6,H6,I6,q6⟩=>?_);refine wpAny_passesOwn hp (dY (hb _ s6 σ6 H6 _ I6 q6) λf s7 q7=>?_);have again:∀{pB:St} {H7:Hp},Inv X (pins++qk fp s5.heap) pB H7 s7->N pB H7->∃m,m<n/\∃i σ' H',Inv X pins σ' H' s7/\tn i s7.heap/\(∀b∈fp,H' b=none)/\W i m σ' H':=λ{pB H7} I7 n7=>by
   obtain⟨m',hm,w7⟩:=hN pB H7 n7;refine⟨m',hm,i+1,pB,H7,I7.x_,T.keep _ _ _ rM λb hb o e=>(I7.pin (b,o) (bD _ (bD _ (vC hb e)))).1,λb hb=>?_,w7⟩;obtain⟨o,e,d⟩:=T.obj _ _ rM b hb;exact(I7.pin (b,o) (bD _ (bD _ (vC hb e)))).2.1
  cases f with
  |next=>obtain⟨pB,H7,I7,n7⟩:=q7;exact again I7 n7
  |cont=>obtain⟨pB,H7,I7,n7⟩:=q7;exact again I7 n7
  |brk=>obtain⟨pB,H7,I7,q7⟩:=q7;exact⟨pB,H7,I7.x_,q7⟩
  |ret v=>obtain⟨x7,pB,H7,I7,r7,q7⟩:=q7;exact⟨x7,pB,H7,I7.x_,r7,q7⟩
end
def vM{K:b6}{a:Addr}{xs:List V}{g:TG}{tb:TS}{D:Ends}{σ:St}{H:Hp}(Pv:Nat->St->Hp->Prop)(h0:Pv 0 σ H)(hl:∀i σ H,i<=xs.length->Pv i σ H->cU K H a xs)
  (hs:∀i x σ H,xs[i]? =some x->Pv i σ H->g x σ H λσ2 H2=>tb {D with nx:=Pv (i+1),ct:=Pv (i+1),bk:=D.nx} σ2 H2)(hd:∀σ H,Pv xs.length σ H->D.nx σ H):
  ∃W:Nat->Nat->St->Hp->Prop,(∃m,W 0 m σ H)/\∀i m σ H,W i m σ H->
   ((pU K a).stop i H/\D.nx σ H)\/((pU K a).go i H/\∃N:St->Hp->Prop,(∀σ' H',N σ' H'->∃m',m'<m/\W (i+1) m' σ' H')/\∀x H',(pU K a).jS i H x H'->g x σ H' λσ2 H2=>tb {D with nx:=N,ct:=N,bk:=D.nx} σ2 H2):=by
 refine⟨λi m σ H=>m=xs.length-i/\i<=xs.length/\Pv i σ H,⟨xs.length,by simp,aP _,h0⟩,?_⟩;rintro i m σ H ⟨rfl,hi,p⟩;have q:=hl i σ H hi p
 by_cases eF:i<xs.length
 .refine .inr ⟨⟨xs,xs[i],q,by simp[eF]⟩,Pv (i+1),λσ' H' p'=>⟨xs.length-(i+1),(),rfl,eF,p'⟩,λx H' y=>?_⟩;obtain⟨e,y⟩:=y;subst e;exact hs i x σ _ (y xs q) p
 .have e:i=xs.length:=();subst e;exact .inl ⟨⟨xs,q,aI _⟩,hd σ H p⟩
def an0{K:b6}{a:Addr}{xs:List V}{g:TG}{tb:TS}{D:Ends}{σ:St}{H:Hp}(Pv:Nat->St->Hp->Prop)(h0:Pv 0 σ H)(hl:∀i σ H,i<=xs.length->Pv i σ H->e_ K H a xs)
  (hs:∀i x σ H,xs[i]? =some x->Pv i σ H->g x σ H λσ2 H2=>tb {D with nx:=Pv (i+1),ct:=Pv (i+1),bk:=D.nx} σ2 H2)(hd:∀σ H,Pv xs.length σ H->D.nx σ H):
  ∃W:Nat->Nat->St->Hp->Prop,(∃m,W 0 m σ H)/\∀i m σ H,W i m σ H->
   ((Ad K a).stop i H/\D.nx σ H)\/((Ad K a).go i H/\∃N:St->Hp->Prop,(∀σ' H',N σ' H'->∃m',m'<m/\W (i+1) m' σ' H')/\∀x H',(Ad K a).jS i H x H'->g x σ H' λσ2 H2=>tb {D with nx:=N,ct:=N,bk:=D.nx} σ2 H2):=by
 refine⟨λi m σ H=>m=xs.length-i/\i<=xs.length/\Pv i σ H,⟨xs.length,by simp,aP _,h0⟩,?_⟩;rintro i m σ H ⟨rfl,hi,p⟩;have q:=hl i σ H hi p
 by_cases eF:i<xs.length
 .refine .inr ⟨⟨xs,xs[i],q,by simp[eF]⟩,Pv (i+1),λσ' H' p'=>⟨xs.length-(i+1),(),rfl,eF,p'⟩,λx H' y=>?_⟩;obtain⟨e,y⟩:=y;subst e;exact hs i x σ _ (y xs q) p
 .have e:i=xs.length:=();subst e;exact .inl ⟨⟨xs,q,aI _⟩,hd σ H p⟩
def Zl{lo:Int}{n:Nat}{g:TG}{tb:TS}{D:Ends}{σ:St}{H:Hp}(Pv:Nat->St->Hp->Prop)(h0:Pv 0 σ H)
  (hs:∀i σ H,i<n->Pv i σ H->g (.int (lo+i)) σ H λσ2 H2=>tb {D with nx:=Pv (i+1),ct:=Pv (i+1),bk:=D.nx} σ2 H2)(hd:∀σ H,Pv n σ H->D.nx σ H):
  ∃W:Nat->Nat->St->Hp->Prop,(∃m,W 0 m σ H)/\∀i m σ H,W i m σ H->
   ((xN lo n).stop i H/\D.nx σ H)\/((xN lo n).go i H/\∃N:St->Hp->Prop,(∀σ' H',N σ' H'->∃m',m'<m/\W (i+1) m' σ' H')/\∀x H',(xN lo n).jS i H x H'->g x σ H' λσ2 H2=>tb {D with nx:=N,ct:=N,bk:=D.nx} σ2 H2):=by
 refine⟨λi m σ H=>m=n-i/\i<=n/\Pv i σ H,⟨n,by simp,aP _,h0⟩,?_⟩;rintro i m σ H ⟨rfl,hi,p⟩
 by_cases eF:i<n
 .refine .inr ⟨eF,Pv (i+1),λσ' H' p'=>⟨n-(i+1),(),rfl,eF,p'⟩,λx H' y=>?_⟩;obtain⟨e,y⟩:=y;subst e y;exact hs i σ _ eF p
 .have e:i=n:=();subst e;exact .inl ⟨aI _,hd σ H p⟩
def ZS{c:TT}{tb:TS}{D:Ends}{σ:St}{H:Hp}(Pv:St->Hp->Prop)(μ:St->Hp->Nat)(h0:Pv σ H)
  (hs:∀σ H,Pv σ H->c σ H λb H1=>if b=true then tb {D with nx:=λσ' H'=>Pv σ' H'/\μ σ' H'<μ σ H,ct:=λσ' H'=>Pv σ' H'/\μ σ' H'<μ σ H,bk:=D.nx} σ H1 else D.nx σ H1)
  (mono:∀σ H Q Q',(∀b H1,Q b H1->Q' b H1)->c σ H Q->c σ H Q'):M_ c tb D σ H:=by
 refine⟨λm σ H=>m=μ σ H/\Pv σ H,⟨_,rfl,h0⟩,?_⟩;rintro m σ H ⟨rfl,p⟩;refine mono σ H _ _ (λb H1 q=>?_) (hs σ H p);cases b with
 |true=>exact⟨_,λσ' H' ⟨p',l⟩=>⟨_,l,rfl,p'⟩,q⟩
 |false=>exact q
abbrev R2:=V->V->Hp->VK->Prop
def fV(X:Cx)(f:Value->Value->Sem Value)(r:R2):Prop:=
 ∀(pins:List (Addr×Obj)) (s:Shared) (σ:St) (H:Hp) (x y:V) (v u:Value) (Q:VK),Inv X pins σ H s->RelV x v->RelV y u->r x y H Q->
  wpAny (model X.prog X.w) X.A (f v u) (EP X pins σ Q) X.xe s
def ID(X:Cx)(f:Value->Sem Value)(r:V->Hp->VK->Prop):Prop:=
 ∀(pins:List (Addr×Obj)) (s:Shared) (σ:St) (H:Hp) (x:V) (v:Value) (Q:VK),Inv X pins σ H s->RelV x v->r x H Q->
  wpAny (model X.prog X.w) X.A (f v) (EP X pins σ Q) X.xe s
def mK(X:Cx)(f:Value)(r:List V->Hp->VK->Prop):Prop:=
 ∀(pins:List (Addr×Obj)) (s:Shared) (σ:St) (H:Hp) (xs:List V) (us:List Value) (Q:VK),Inv X pins σ H s->Vals xs us->r xs H Q->
  wpAny (model X.prog X.w) X.A (call f us) (EP X pins σ Q) X.xe s
def qI(r:R2)(ta tb:TE):TE:=λσ H Q=>ta σ H λx H1=>tb σ H1 λy H2=>r x y H2 Q
def tUn(r:V->Hp->VK->Prop)(ta:TE):TE:=λσ H Q=>ta σ H λx H1=>r x H1 Q
inductive rI(C:Int->Int->Prop)(g:Int->Int->V)(x:V)(y:V)(H:Hp)(Q:VK):Prop|m(i j)(_:x= .int i)(_:y= .int j)(_:C i j)(_:Q (g i j) H)
inductive qK(g:Int->Int->V)(x:V)(y:V)(H:Hp)(Q:VK):Prop|m(i j)(_:x= .int i)(_:y= .int j)(_:Q (g i j) H)
inductive rU(g:Int->V)(x:V)(H:Hp)(Q:VK):Prop|m(i)(_:x= .int i)(_:Q (g i) H)
section
variable {X:Cx}{a b c:Expr}{ta tb tc:TE}{pos:Pos}
def GQ(ha:PE X a ta)(hb:PE X b tb){pins:List (Addr×Obj)}{s:Shared}{σ:St}{H:Hp}{R:V->V->Hp->Prop}(I:Inv X pins σ H s)
  (h:ta σ H λx H1=>tb σ H1 λy H2=>R x y H2){Q:Value->Shared->Prop}{f:Value->Value->Sem Value}
  (hf:∀v u s2 x y H2,Inv X pins σ H2 s2->RelV x v->RelV y u->R x y H2->wpAny (model X.prog X.w) X.A (f v u) Q X.xe s2):
  wpAny (model X.prog X.w) X.A (eval a X.env) (λv s₁=>wpAny (model X.prog X.w) X.A (eval b X.env) (λu s₂=>wpAny (model X.prog X.w) X.A (f v u) Q X.xe s₂) X.xe s₁) X.xe s:=by
 refine dY (ha pins s σ H _ I h) λv s1 ⟨x,H1,I1,r1,q1⟩=>?_;refine dY (hb pins s1 σ H1 _ I1 q1) λu s2 ⟨y,H2,I2,r2,q2⟩=>?_;exact hf v u s2 x y H2 I2 r1 r2 q2
def dm{op:Operator}{r:R2}(ho:fV X (binaryOp op) r)(ha:PE X a ta)(hb:PE X b tb):PE X (.BinOp a op b pos) (qI r ta tb):=by
 intro pins s σ H Q I h;exact wpAny_BinOp (GQ ha hb I h λv u s2 x y H2 I2 rx ry q=>ho pins s2 σ H2 x y v u Q I2 rx ry q)
def sO{op:UnaryOp}{r:V->Hp->VK->Prop}(ho:ID X (unaryOp op) r)(ha:PE X a ta):PE X (.UnaryOp op a pos) (tUn r ta):=by
 intro pins s σ H Q I h;exact UnaryOp_ (dY (ha pins s σ H _ I h) λv s1 ⟨x,H1,I1,r1,q1⟩=>ho pins s1 σ H1 x v Q I1 r1 q1)
def uU{f:Value->Value->Sem Value}{C:Int->Int->Prop}{g:Int->Int->Int}
  (rule:∀(i j:Int) (t u:Tok) (s:Shared) (Q:Value->Shared->Prop) (E:Value->Shared->Prop),C i j->Q (.int (g i j) s.toks) {s with toks:=s.toks+1}->wpAny (model X.prog X.w) X.A (f (.int i t) (.int j u)) Q E s):
  fV X f (rI C λi j=>.int (g i j)):=by
 intro pins s σ H x y v u Q I rx ry h;obtain⟨i,j,rfl,rfl,hc,q⟩:=h;obtain⟨t,rfl⟩:=rx;obtain⟨t',rfl⟩:=ry;exact rule i j t t' s _ _ hc ⟨.int (g i j),H,I.tok _,⟨_,rfl⟩,q⟩
def Gs{f:Value->Value->Sem Value}{g:Int->Int->Int}
  (rule:∀(i j:Int) (t u:Tok) (s:Shared) (Q:Value->Shared->Prop) (E:Value->Shared->Prop),Q (.int (g i j) s.toks) {s with toks:=s.toks+1}->wpAny (model X.prog X.w) X.A (f (.int i t) (.int j u)) Q E s):
  fV X f (qK λi j=>.int (g i j)):=by
 intro pins s σ H x y v u Q I rx ry h;obtain⟨i,j,rfl,rfl,q⟩:=h;obtain⟨t,rfl⟩:=rx;obtain⟨t',rfl⟩:=ry;exact rule i j t t' s _ _ ⟨.int (g i j),H,I.tok _,⟨_,rfl⟩,q⟩
def BX{f:Value->Value->Sem Value}{g:Int->Int->Bool}
  (rule:∀(i j:Int) (t u:Tok) (s:Shared) (Q:Value->Shared->Prop) (E:Value->Shared->Prop),Q (.bool (g i j)) s->wpAny (model X.prog X.w) X.A (f (.int i t) (.int j u)) Q E s):
  fV X f (qK λi j=>.bl (g i j)):=by
 intro pins s σ H x y v u Q I rx ry h;obtain⟨i,j,rfl,rfl,q⟩:=h;obtain⟨t,rfl⟩:=rx;obtain⟨t',rfl⟩:=ry;exact rule i j t t' s _ _ ⟨.bl (g i j),H,I,rfl,q⟩
def aR7(i j:Int):Prop:=0<j/\j<1073741824
def Cb(i j:Int):Prop:=(-(2^64)<i/\i<2^64)\/(-(2^64)<j/\j<2^64)
def Cb.ok{i j:Int}(h:Cb i j):IntMulOk i j:=by
 rcases h with⟨h1,h2⟩|⟨h1,h2⟩
 .exact .of_left (intBits_le_64 h1 h2)
 .exact .of_right (intBits_le_64 h1 h2)
def XZ(k:Nat):(0:Int)<=2^k:=by
 rw[two_pow_cast];exact Int.natCast_nonneg _
def fL:fV X (binaryOp .Add) (qK λi j=>.int (i+j)):=Gs λ_ _ _ _ _ _ _ q=>add_int q
def iI:fV X (binaryOp .Sub) (qK λi j=>.int (i-j)):=Gs λ_ _ _ _ _ _ _ q=>sub_int q
def ki:fV X (binaryOp .Mult) (rI Cb λi j=>.int (i*j)):=uU λ_ _ _ _ _ _ _ hc q=>mul_int q hc.ok
def mw:fV X (binaryOp .FloorDiv) (rI aR7 λi j=>.int (i/j)):=uU λi j _ _ _ _ _ hc q=>by
 have h1:(0:Int)<j:=hc.1;have h2:j<1073741824:=hc.2;exact floordiv_int () (by rw[Int.fdiv_eq_ediv_of_nonneg i ()];exact q) (.inl (PyProof.noPylong_small ()))
def kO:fV X (binaryOp .Mod) (rI (λ_ j=>0<j) λi j=>.int (i%j)):=uU λi j _ _ _ _ _ hc q=>by
 have h1:(0:Int)<j:=hc;exact mod_int' () (by rw[Int.fmod_eq_emod_of_nonneg i ()];exact q)
def av0:fV X (binaryOp .RShift) (rI (λ_ j=>0<=j) λi j=>.int (i/2^j.toNat)):=uU λi j _ _ _ _ _ hc q=>
 rshift_int hc (by rw[Int.fdiv_eq_ediv_of_nonneg i (XZ _)];exact q)
def N1:fV X (binaryOp .BitAnd) (qK λi j=>.int (Builtin.bitAnd i j)):=Gs λ_ _ _ _ _ _ _ q=>and_int q
def am6:fV X (inplaceOp .Mult) (rI Cb λi j=>.int (i*j)):=uU λ_ _ _ _ _ _ _ hc q=>imul_int q hc.ok
def unI{f:Value->Sem Value}{g:Int->Int}
  (rule:∀(i:Int) (t:Tok) (s:Shared) (Q:Value->Shared->Prop) (E:Value->Shared->Prop),Q (.int (g i) s.toks) {s with toks:=s.toks+1}->wpAny (model X.prog X.w) X.A (f (.int i t)) Q E s):
  ID X f (rU λi=>.int (g i)):=by
 intro pins s σ H x v Q I rx h;obtain⟨i,rfl,q⟩:=h;obtain⟨t,rfl⟩:=rx;exact rule i t s _ _ ⟨.int (g i),H,I.tok _,⟨_,rfl⟩,q⟩
def sE:ID X (unaryOp .USub) (rU λi=>.int (-i)):=unI λ_ _ _ _ _ q=>neg_int q
end
def Gq:V->V->Bool
 | .dI,.dI=>true| .dI,.int _=>true| .int _,.dI=>true| .dI,.bl _=>true| .bl _,.dI=>true| .dI,.str _=>true| .str _,.dI=>true
 | .int _,.int _=>true| .bl _,.bl _=>true| .str _,.str _=>true| .kJ _,.kJ _=>true
 | .int _,.str _=>true| .str _,.int _=>true| .bl _,.str _=>true| .str _,.bl _=>true
 |_,_=>false
def R8:R2:=λx y H Q=>Gq x y=true/\Q (.bl (decide (x=y))) H
def rNe:R2:=λx y H Q=>Gq x y=true/\Q (.bl (!decide (x=y))) H
def MQ{i j:Int}:decide (V.int i=V.int j)=(i==j):=by
 rw[bC];simp
def Oe{i j:Bool}:decide (V.bl i=V.bl j)=(i==j):=by
 rw[bC];simp
def MP{i j:Str}:decide (V.str i=V.str j)=(i==j):=by
 rw[bC];simp
def MR{i j:Array UInt8}:decide (V.kJ i=V.kJ j)=(i.toList==j.toList):=by
 rw[bC];cases i;cases j;simp
section
variable {X:Cx}{a b c:Expr}{ta tb tc:TE}{pos:Pos}
def gI{pins:List (Addr×Obj)}{σ:St}{H:Hp}{s:Shared}{Q:VK}{k k':Bool}(I:Inv X pins σ H s)(q:Q (.bl k) H)(e:k=k'):EP X pins σ Q (.bool k') s:=by
 subst e;exact⟨.bl k,H,I,rfl,q⟩
def dU:fV X (compareOp .Eq) R8:=by
 intro pins s σ H x y v u Q I rx ry h;obtain⟨hs,q⟩:=h;cases x with
 |dI=>
  cases rx;cases y with
  |dI=>cases ry;exact PySem.EqNone.eq_none_none (gI I q (by simp))
  |bl j=>cases ry;exact PySem.EqNone.eq_none_bool (gI I q (by simp))
  |int j=>obtain⟨t',rfl⟩:=ry;exact PySem.EqNone.eq_none_int (gI I q (by simp))
  |str j=>obtain⟨t',rfl⟩:=ry;exact PySem.EqNone.eq_none_str (gI I q (by simp))
  |_=>exact cJ (show false=true from hs) a_
 |bl i=>
  cases rx;cases y with
  |dI=>cases ry;exact PySem.EqNone.eq_bool_none (gI I q (by simp))
  |bl j=>cases ry;exact eq_bool (gI I q Oe)
  |str j=>obtain⟨t',rfl⟩:=ry;exact PySem.EqMixed.eq_bool_str (gI I q (by simp))
  |_=>exact cJ (show false=true from hs) a_
 |int i=>
  obtain⟨t,rfl⟩:=rx;cases y with
  |dI=>cases ry;exact PySem.EqNone.eq_int_none (gI I q (by simp))
  |int j=>obtain⟨t',rfl⟩:=ry;exact eq_int (gI I q MQ)
  |str j=>obtain⟨t',rfl⟩:=ry;exact PySem.EqMixed.eq_int_str (gI I q (by simp))
  |_=>exact cJ (show false=true from hs) a_
 |str i=>
  obtain⟨t,rfl⟩:=rx;cases y with
  |dI=>cases ry;exact PySem.EqNone.eq_str_none (gI I q (by simp))
  |bl j=>cases ry;exact PySem.EqMixed.eq_str_bool (gI I q (by simp))
  |int j=>obtain⟨t',rfl⟩:=ry;exact PySem.EqMixed.eq_str_int (gI I q (by simp))
  |str j=>obtain⟨t',rfl⟩:=ry;exact eq_str (gI I q MP)
  |_=>exact cJ (show false=true from hs) a_
 |kJ i=>
  obtain⟨t,rfl⟩:=rx;cases y with
  |kJ j=>obtain⟨t',rfl⟩:=ry;exact eq_bytes (gI I q MR)
  |_=>exact cJ (show false=true from hs) a_
 |_=>cases y<;>exact cJ (show false=true from hs) a_
def wu:fV X (compareOp .NotEq) rNe:=by
 intro pins s σ H x y v u Q I rx ry h;obtain⟨hs,q⟩:=h;cases x with
 |dI=>
  cases rx;cases y with
  |dI=>cases ry;exact PySem.EqNone.ne_none_none (gI I q (by simp))
  |bl j=>cases ry;exact PySem.EqNone.ne_none_bool (gI I q (by simp))
  |int j=>obtain⟨t',rfl⟩:=ry;exact PySem.EqNone.ne_none_int (gI I q (by simp))
  |str j=>obtain⟨t',rfl⟩:=ry;exact PySem.EqNone.ne_none_str (gI I q (by simp))
  |_=>exact cJ (show false=true from hs) a_
 |bl i=>
  cases rx;cases y with
  |dI=>cases ry;exact PySem.EqNone.ne_bool_none (gI I q (by simp))
  |bl j=>cases ry;exact ne_bool (gI I q (cI not Oe))
  |str j=>obtain⟨t',rfl⟩:=ry;exact PySem.EqMixed.ne_bool_str (gI I q (by simp))
  |_=>exact cJ (show false=true from hs) a_
 |int i=>
  obtain⟨t,rfl⟩:=rx;cases y with
  |dI=>cases ry;exact PySem.EqNone.ne_int_none (gI I q (by simp))
  |int j=>obtain⟨t',rfl⟩:=ry;exact ne_int (gI I q (cI not MQ))
  |str j=>obtain⟨t',rfl⟩:=ry;exact PySem.EqMixed.ne_int_str (gI I q (by simp))
  |_=>exact cJ (show false=true from hs) a_
 |str i=>
  obtain⟨t,rfl⟩:=rx;cases y with
  |dI=>cases ry;exact PySem.EqNone.ne_str_none (gI I q (by simp))
  |bl j=>cases ry;exact PySem.EqMixed.ne_str_bool (gI I q (by simp))
  |int j=>obtain⟨t',rfl⟩:=ry;exact PySem.EqMixed.ne_str_int (gI I q (by simp))
  |str j=>obtain⟨t',rfl⟩:=ry;exact ne_str (gI I q (cI not MP))
  |_=>exact cJ (show false=true from hs) a_
 |kJ i=>
  obtain⟨t,rfl⟩:=rx;cases y with
  |kJ j=>obtain⟨t',rfl⟩:=ry;exact ne_bytes (gI I q (cI not MR))
  |_=>exact cJ (show false=true from hs) a_
 |_=>cases y<;>exact cJ (show false=true from hs) a_
def jg:fV X (compareOp .Lt) (qK λi j=>.bl (decide (i<j))):=BX λ_ _ _ _ _ _ _ q=>lt_int q
def iJ:fV X (compareOp .LtE) (qK λi j=>.bl (decide (i<=j))):=BX λ_ _ _ _ _ _ _ q=>le_int q
def iV:fV X (compareOp .Gt) (qK λi j=>.bl (decide (j<i))):=BX λ_ _ _ _ _ _ _ q=>gt_int q
def Qg:fV X (compareOp .GtE) (qK λi j=>.bl (decide (j<=i))):=BX λ_ _ _ _ _ _ _ q=>ge_int q
def Bd:fV X (compareOp .IsNot) (λx y H Q=>y= .dI/\Q (.bl (!decide (x= .dI))) H):=by
 intro pins s σ H x y v u Q I rx ry h;obtain⟨rfl,q⟩:=h;cases ry;refine isnot_none_gen (gI I q ?_);cases x<;>first
  |(cases rx;rfl)
  |(obtain⟨t,rfl⟩:=rx;rfl)
def N3(b:Expr){op:CmpOp}(h:op≠.In:=by decide)(h2:op≠.NotIn:=by decide):behindInMarks op b=false:=by
 have e1:(op==CmpOp.In)=false:=by cases op<;>first |rfl|exact cJ rfl h
 have e2:(op==CmpOp.NotIn)=false:=by cases op<;>first |rfl|exact cJ rfl h2
 cases b<;>simp[behindInMarks,e1,e2]
def fQ{op:CmpOp}{r:R2}(ho:fV X (compareOp op) r)(ha:PE X a ta)(hb:PE X b tb)(hm:behindInMarks op b=false:=by exact N3 _):PE X (.Compare a [op] [b] pos) (qI r ta tb):=by
 intro pins s σ H Q I h;exact wpAny_Compare1 (GQ ha hb I h λv u s2 x y H2 I2 rx ry q=>ho pins s2 σ H2 x y v u Q I2 rx ry q) hm
inductive ag0(Q:Bool->Hp->Prop)(x:V)(H':Hp):Prop|m(k)(_:x= .bl k)(_:Q k H')
def yD(t:TE):TT:=λσ H Q=>t σ H λx H'=>ag0 Q x H'
def dj{op:CmpOp}{r:R2}(ho:fV X (compareOp op) r)(ha:PE X a ta)(hb:PE X b tb)(hm:behindInMarks op b=false:=by exact N3 _):PT X (.Compare a [op] [b] pos) (yD (qI r ta tb)):=by
 intro pins s σ H Q I h;refine wpAny_isTrue_Compare1 (dY (ha pins s σ H _ I h) λv s1 ⟨x,H1,I1,r1,q1⟩=>dY (hb pins s1 σ H1 _ I1 q1) λu s2 ⟨y,H2,I2,r2,q2⟩=>
  dY (ho pins s2 σ H2 x y v u _ I2 r1 r2 q2) λc s3 ⟨z,H3,I3,r3,k,e,q3⟩=>?_) hm
 subst e;cases r3;exact wpAny_truthy_bool ⟨H3,I3,q3⟩
inductive ZX(r':R2)(tc:TE)(σ:St)(Q:VK)(y:V)(z:V)(H3:Hp):Prop|m(k)(_:z= .bl k)(_:(if k=true then tc σ H3 λw' H4=>r' y w' H4 Q else Q (.bl false) H3))
def Na(r r':R2)(ta tb tc:TE):TE:=λσ H Q=>ta σ H λx H1=>tb σ H1 λy H2=>r x y H2 λz H3=>ZX r' tc σ Q y z H3
def vH{op uV:CmpOp}{r r':R2}(ho:fV X (compareOp op) r)(jF:fV X (compareOp uV) r')(ha:PE X a ta)(hb:PE X b tb)(hc:PE X c tc)
  (hm:lastMarks [op,uV] [b,c]=false:=by with_unfolding_all rfl):PE X (.Compare a [op,uV] [b,c] pos) (Na r r' ta tb tc):=by
 intro pins s σ H Q I h;refine Compare_chain (dY (ha pins s σ H _ I h) λv s1 ⟨x,H1,I1,r1,q1⟩=>chain_link (dY (hb pins s1 σ H1 _ I1 q1) λu s2 ⟨y,H2,I2,r2,q2⟩=>
  dY (ho pins s2 σ H2 x y v u _ I2 r1 r2 q2) λd s3 ⟨z,H3,I3,r3,k,e,q3⟩=>?_)) hm
 subst e;cases r3;refine wpAny_truthy_bool ?_;cases k with
 |false=>exact ite_ff ⟨.bl false,H3,I3,rfl,q3⟩
 |true=>exact ite_tt (chain_last (dY (hc pins s3 σ H3 _ I3 q3) λw' s4 ⟨z',H4,I4,r4,q4⟩=>jF pins s4 σ H4 y z' u w' Q I4 r2 r4 q4))
def Ew{op uV:CmpOp}{r r':R2}(ho:fV X (compareOp op) r)(jF:fV X (compareOp uV) r')(ha:PE X a ta)(hb:PE X b tb)(hc:PE X c tc)
  (hm:lastMarks [op,uV] [b,c]=false:=by with_unfolding_all rfl):PT X (.Compare a [op,uV] [b,c] pos) (yD (Na r r' ta tb tc)):=by
 intro pins s σ H Q I h;refine isTrue_chain (dY (ha pins s σ H _ I h) λv s1 ⟨x,H1,I1,r1,q1⟩=>test_link (dY (hb pins s1 σ H1 _ I1 q1) λu s2 ⟨y,H2,I2,r2,q2⟩=>
  dY (ho pins s2 σ H2 x y v u _ I2 r1 r2 q2) λd s3 ⟨z,H3,I3,r3,k,e,q3⟩=>?_)) hm
 subst e;cases r3;refine wpAny_truthy_bool ?_;cases k with
 |false=>
  obtain⟨k',e',q'⟩:=q3;cases e';exact ite_ff ⟨H3,I3,q'⟩
 |true=>
  refine ite_tt (test_last (dY (hc pins s3 σ H3 _ I3 q3) λw' s4 ⟨z',H4,I4,r4,q4⟩=>dY (jF pins s4 σ H4 y z' u w' _ I4 r2 r4 q4) λd' s5 ⟨z2,H5,I5,r5,k2,e2,q5⟩=>?_));subst e2;cases r5;exact wpAny_truthy_bool ⟨H5,I5,q5⟩
def By:(sizeLine:Nat)<2^63:=by rw[sizeLine_eq];decide
def vals1{x:V}{us:List Value}(r:Vals [x] us):∃u,us=[u]/\RelV x u:=by
 cases r with
 |cons r1 r2=>cases r2;exact⟨_,rfl,r1⟩
def vals2{x y:V}{us:List Value}(r:Vals [x,y] us):∃u w',us=[u,w']/\RelV x u/\RelV y w':=by
 cases r with
 |cons r1 r2=>
  cases r2 with
  |cons r3 r4=>cases r4;exact⟨_,_,rfl,r1,r3⟩
def A1:mK X (.builtin "abs") (λxs H Q=>∃i,xs=[.int i]/\Q (.int (if i<0 then-i else i)) H):=by
 intro pins s σ H xs us Q I r h;obtain⟨i,rfl,q⟩:=h;obtain⟨u,rfl,t,rfl⟩:=vals1 r;exact call_abs_int λu tk=>⟨.int (if i<0 then-i else i),H,I.tok _,⟨_,rfl⟩,q⟩
def AK(hc:X.calm=true):mK X (.builtin "max") (λxs H Q=>∃i j,xs=[.int i,.int j]/\Q (.int (if j>i then j else i)) H):=by
 intro pins s σ H xs us Q I r h;obtain⟨i,j,rfl,q⟩:=h;obtain⟨u,w',rfl,⟨t,rfl⟩,⟨t',rfl⟩⟩:=vals2 r;refine max_two_ints (I.ok.hd hc) λh' tk k=>⟨_,H,I.kept k,?_,q⟩
 by_cases hj:j>i
 .rw[ah hj,ah hj];exact⟨_,rfl⟩
 .rw[aa hj,aa hj];exact⟨_,rfl⟩
def WX:mK X (.type "str") (λxs H Q=>∃i,xs=[.int i]/\i.natAbs.log2<1920/\Q (.str (toString i)) H):=by
 intro pins s σ H xs us Q I r h;obtain⟨i,rfl,hz,q⟩:=h;obtain⟨u,rfl,t,rfl⟩:=vals1 r;exact PySem.P.str_of_int hz ⟨.str _,H,I.tok _,⟨_,rfl⟩,q⟩
def af0:mK X (.builtin "ord") (λxs H Q=>∃x,xs=[.str x]/\x.length=1/\Q (.int (x.cps.getD 0 0:Nat)) H):=by
 intro pins s σ H xs us Q I r h;obtain⟨x,rfl,hz,q⟩:=h;obtain⟨u,rfl,t,rfl⟩:=vals1 r;exact ord_of_one hz ⟨.int _,H,I.tok _,⟨_,rfl⟩,q⟩
end
structure wK(h:Heap)(x dx C:Addr)(mA:Str->Option Value):Prop where
 obj:h.get? x=some (instObj C dx)
 ns:h.Ns1 dx mA
 ne:dx≠x
def Y_{h:Heap}{dx:Addr}{mA:Str->Option Value}(n:h.Ns1 dx mA):∃od,h.get? dx=some od/\∀name,lookIn name od=some (mA name):=by
 obtain⟨o,es,ep,ho,hd,hk,_,hm⟩:=n;refine⟨o,ho,λname=>?_⟩;have e:=hm name;unfold nsFind findBy at e;rw[<-Array.find?_toList]at e;unfold lookIn;rw[hd];dsimp only;split
 .rename_i y q;rw[q]at e;exact cI some e
 .rename_i q;rw[q]at e;have a:es.toList.any (·.refKey)=false:=by
   rw[List.any_eq_false];intro y hy;obtain⟨z,t,GA⟩:=hk y (Array.mem_toList_iff.mp hy);simp[DictEntry.refKey,GA]
  have a':¬es.toList.any (·.refKey)=true:=by rw[a];exact a_
  rw[aa a'];exact cI some e
def wK.look{h:Heap}{x dx C:Addr}{mA:Str->Option Value}(I:wK h x dx C mA):∃od,PySem.W.InstAt h x (instObj C dx) C (some od)/\∀name,lookIn name od=some (mA name):=
 let⟨od,ho,hl⟩:=Y_ I.ns
 ⟨od,⟨I.obj,rfl,rfl,ho⟩,hl⟩
section
variable {prog:Program}{w:World}{A:Around}{E:Value->Shared->Prop}{s:Shared}{K:b6}{x dx C f:Addr}{mA:Str->Option Value}{name:Str}{v:Value}
def get_map{expr:Bool}{Q:Value->Shared->Prop}(X:K.In s.heap)(I:wK s.heap x dx C mA)(hg:plainGet K C name=true)(hh:hasDictIn K C=true)
  (ha:findIn K (.ref C) name=some none)(hv:mA name=some v)(Cr:handedIn v=true)(h:Q v {s with toks:=s.toks+1}):
  wpAny (model prog w) A (getAttr (.ref x) name expr) Q E s:=by
 obtain⟨od,J,hl⟩:=I.look;exact get_value X J (plainGet_of hg).1 (findObj_own hh ha rfl (by rw[hl,hv])) Cr h
def ag7{ns:List Str}{Q:Unit->Shared->Prop}(X:K.In s.heap)(I:wK s.heap x dx C mA)
  (hs:findIn K (.ref C) "__setattr__"=some (some (.builtin "object.__setattr__")))(hp:plainOver K C=true)(ht:takerIn K C name=some none)(hh:hasDictIn K C=true)
  (hw:PySem.Within mA ns)(hsz:ns.length<=sizeLine)
  (h:∀h',wK h' x dx C (λy=>if y=name then some v else mA y)->Heap.SameBut dx s.heap h'->Q Unit.unit {s with heap:=h',toks:=s.toks+2}):
  wpAny (model prog w) A (setAttr (.ref x) name v) Q E s:=by
 obtain⟨od,J,hl⟩:=I.look;refine set_plain X J hs (osa_open (s:={s with toks:=s.toks+1}) (r:=none) X J hp ht λb=>?_);obtain⟨cd,hc,xx⟩:=any_some hh;have hx:s.heap.get? x=some ⟨.ref C,some dx,.plain,#[]⟩:=I.obj;refine b8 (b9 (b8 (b8 (wpAny_loadPart hx (b8 (Looks.here (s:={s with toks:=s.toks+1}) (looks_clsIn X hc) ?_))))));rw[xx];refine b9 (a:=some dx) (b8 (b9 (b8 ?_)));refine wpAny_nsSet1 (s:={s with toks:=s.toks+1}) I.ns λh' xh Ct=>?_;obtain⟨oD,esD,epD,hoD,hdD,hcD⟩:=xh.count (PySem.Within.cons name v hw);refine b8 (wpAny_lookBehind hoD (by rw[hdD];exact pastItsLine_dict (aV hcD (by rw[aK];lia))) ?_);exact b9 (h _ ⟨(Ct.2 _ (cH I.ne)).trans I.obj,xh,I.ne⟩ Ct)
def ad0{R:Result->Shared->Prop}{vs:List Value}{kw:List (Str×Value)}(X:K.In s.heap)(hm:makesIn K C=true)
  (hi:findIn K (.ref C) "__init__"=some (some (.ref f)))(hf:typeIn K (.ref f)=some (.type "function"))
  (h:codeAny (model prog w) (A.under (.builtin "type.__call__" ⟨.ref C::vs,kw⟩)) (.call (.ref f) ⟨.ref (s.heap.objs.size+1)::vs,kw⟩) (InitBack (s.heap.objs.size+1) R)
   {s with heap:=(s.heap.push emptyDict).push (instObj C s.heap.objs.size)}):
  codeAny (model prog w) A (.call (.ref C) ⟨vs,kw⟩) R s:=by
 obtain⟨hh,g,d,t,os⟩:=s;exact make_core (makes_of X hm) (looks_findIn X hi) (λself=>bind_fn X self hf) (.inl rfl) h
end
def eG(f:Str)(v:V):List (Str×V)->List (Str×V)
 |[]=>[(f,v)]
 |(g,x)::r=>if g=f then(g,v)::r else(g,x)::eG f v r
theorem eO(f g:Str)(v:V):∀fs:List (Str×V),(eG f v fs).lookup g=if g=f then some v else fs.lookup g
 |[]=>by
  show List.lookup g [(f,v)]=_
  by_cases h:g=f
  .have hb:(g==f)=true:=beq_iff_eq.mpr h;simp only[List.lookup,hb,ah h]
  .have hb:(g==f)=false:=beq_eq_false_iff_ne.mpr h;simp only[List.lookup,hb,aa h]
 |(k,x)::r=>by
  have ih:=eO f g v r;rw[show eG f v ((k,x)::r)=(if k=f then(k,v)::r else(k,x)::eG f v r)from rfl]
  by_cases hk:k=f
  .rw[ah hk]
   by_cases h:g=k
   .have hb:(g==k)=true:=beq_iff_eq.mpr h;simp only[List.lookup,hb,ah (h.trans hk)]
   .have hb:(g==k)=false:=beq_eq_false_iff_ne.mpr h;simp only[List.lookup,hb,aa (λe:g=f=>h (e.trans hk.symm))]
  .rw[aa hk]
   by_cases h:g=k
   .have hb:(g==k)=true:=beq_iff_eq.mpr h;simp only[List.lookup,hb,aa (λe:g=f=>hk (h.symm.trans e))]
   .have hb:(g==k)=false:=beq_eq_false_iff_ne.mpr h;simp only[List.lookup,hb];exact ih
theorem Eh(f:Str)(v:V):∀fs:List (Str×V),f∈(eG f v fs).map (·.1)/\∀g,g∈fs.map (·.1)->g∈(eG f v fs).map (·.1)
 |[]=>⟨by simp[eG],λg h=>by simp at h⟩
 |(k,x)::r=>by
  obtain⟨i1,i2⟩:=Eh f v r;rw[show eG f v ((k,x)::r)=(if k=f then(k,v)::r else(k,x)::eG f v r)from rfl]
  by_cases hk:k=f
  .rw[ah hk];subst hk;exact⟨by simp,λg h=>by simpa using h⟩
  .rw[aa hk];refine⟨?_,λg h=>?_⟩
   .rw[aX];exact aA _ i1
   .rw[aX]at h ⊢;rcases aN.mp h with e|e
    .exact aN.mpr (.inl e)
    .exact aA _ (i2 g e)
theorem JT(f:Str)(v:V):∀fs:List (Str×V),(eG f v fs).length<=fs.length+1
 |[]=>by simp[eG]
 |(k,x)::r=>by
  have ih:=JT f v r;rw[show eG f v ((k,x)::r)=(if k=f then(k,v)::r else(k,x)::eG f v r)from rfl]
  by_cases hk:k=f
  .rw[ah hk,aK,aK];lia
  .rw[aa hk,aK,aK];lia
def o_.some_of{v:V}{o:Option Value}(r:o_ (some v) o):∃u,o=some u/\RelV v u:=by
 cases o with
 |none=>exact(show False from r).elim
 |some u=>exact⟨u,rfl,r⟩
def Zj{v:V}{u:Value}(r:RelV v u):handedIn u=true:=by
 cases v with
 |dI=>cases(show u=Value.none from r);rfl
 |bl b=>cases(show u=Value.bool b from r);rfl
 |int i=>obtain⟨t,e⟩:=(show ∃t,u=Value.int i t from r);cases e;rfl
 |str x=>obtain⟨t,e⟩:=(show ∃t,u=Value.str x t from r);cases e;rfl
 |kJ b=>obtain⟨t,e⟩:=(show ∃t,u=Value.bytes b t from r);cases e;rfl
 |flt b=>obtain⟨t,e⟩:=(show ∃t,u=Value.float b t from r);cases e;rfl
 |ref a=>cases(show u=Value.ref a from r);rfl
 |ty n=>cases(show u=Value.type n from r);rfl
section
variable {P:Program}{w:World}{H H':Hp}{h h':Heap}{a C dx:Addr}{fs fs':List (Str×V)}
def MG(hok:gw P w H h)(e:H a=some (.ins C dx fs)):∃mA,wK h a dx C mA/\(∀f,o_ (fs.lookup f) (mA f))/\PySem.Within mA (fs.map (·.1))/\fs.length<=1000/\H dx=some (.own a):=by
 obtain⟨d,z,ne,ob,mA,n,r,q⟩:=(show ji P w H h a (.ins C dx fs)from hok a _ e);exact⟨mA,⟨ob,n,ne⟩,r,q,z,d⟩
end
structure lq(K:b6)(C:Addr):Prop where
 pg:plainGet K C Str.empty=true
 hd:hasDictIn K C=true
 po:plainOver K C=true
 sa:findIn K (.ref C) "__setattr__"=some (some (.builtin "object.__setattr__"))
def lq.get{K:b6}{C:Addr}(c:lq K C)(f:Str):plainGet K C f=true:=c.pg
def gz(K:b6)(C:Addr)(f:Str):Prop:=findIn K (.ref C) f=some none
def gz.aD5{K:b6}{C:Addr}{f:Str}(n:gz K C f):takerIn K C f=some none:=by
 unfold takerIn;rw[show findIn K (.ref C) f=some none from n];rfl
section
variable {X:Cx}{pins:List (Addr×Obj)}{σ:St}{H:Hp}{s:Shared}{a C dx:Addr}{fs:List (Str×V)}{f:Str}{v:V}{A:Around}{E:Value->Shared->Prop}
def Yj{b:Bool}{Q:Value->Shared->Prop}(I:Inv X pins σ H s)(e:H a=some (.ins C dx fs))(c:lq X.K C)(n:gz X.K C f)(l:fs.lookup f=some v)
  (h:∀u s',Inv X pins σ H s'->RelV v u->Q u s'):wpAny (model X.prog X.w) A (getAttr (.ref a) f b) Q E s:=by
 obtain⟨mA,O,r,_,_,_⟩:=MG I.hok e;obtain⟨u,hu,ru⟩:=o_.some_of (v:=v) (o:=mA f) (by rw[<-l];exact r f);exact get_map I.kZ O (c.get f) c.hd n hu (Zj ru) (h u _ (I.tok _) ru)
def X6{y:V}{u:Value}{Q:Unit->Shared->Prop}(I:Inv X pins σ H s)(e:H a=some (.ins C dx fs))(c:lq X.K C)(n:gz X.K C f)(hl:fs.length<1000)(ry:RelV y u)
  (h:∀s',Inv X pins σ (upd H a (.ins C dx (eG f y fs))) s'->Q Unit.unit s'):wpAny (model X.prog X.w) A (setAttr (.ref a) f u) Q E s:=by
 obtain⟨mA,O,r,wi,_,ho⟩:=MG I.hok e;have hz:(fs.map (·.1)).length<=sizeLine:=by rw[az,sizeLine_eq];lia
 refine ag7 I.kZ O c.sa c.po n.aD5 c.hd wi hz λh' O' sb=>h _ ?_;have hd:∃o,h'.get? dx=some o:=let⟨o,_,_,e',_⟩:=O'.ns;⟨o,e'⟩;refine I.write (x:=a) (e:=dx) (by rw[e];exact True.intro) (.inr ho) (λb q hb z=>(sb.2 b hb).trans z) hd ?_;refine⟨by rw[eK O.ne];exact ho,?_,O.ne,O'.obj,_,O'.ns,λg=>?_,λg hg=>?_⟩
 .have:=JT f y fs;lia
 .show o_ ((eG f y fs).lookup g) (if g=f then some u else mA g);rw[eO]
  by_cases q:g=f
  .rw[ah q,ah q];exact ry
  .rw[aa q,aa q];exact r g
 .by_cases q:g=f
  .rw[q];exact(Eh f y fs).1
  .refine(Eh f y fs).2 g (wi g λz=>hg ?_);show(if g=f then some u else mA g)=none;rw[aa q];exact z
def Inv.made(I:Inv X pins σ H s):Inv X pins σ (upd (upd H s.heap.objs.size (.own (s.heap.objs.size+1))) (s.heap.objs.size+1) (.ins C s.heap.objs.size []))
  {s with heap:=(s.heap.push emptyDict).push (instObj C s.heap.objs.size)}:=by
 have e1:(s.heap.push emptyDict).get? s.heap.objs.size=some emptyDict:=cu s.heap rfl;have e2:((s.heap.push emptyDict).push (instObj C s.heap.objs.size)).get? (s.heap.objs.size+1)=some (instObj C s.heap.objs.size):=by
  have:=cu (s.heap.push emptyDict) (o:=instObj C s.heap.objs.size) rfl;rwa [Heap.size_push]at this
 have e3:(s.heap.push emptyDict).Ns s.heap.objs.size (λ_=>none):=⟨emptyDict,#[],_,e1,rfl,(λe he=>cJ he (by simp)),λ_=>rfl⟩;have I1:=I.laid (a:=s.heap.objs.size) (o:=.own (s.heap.objs.size+1)) (h':=s.heap.push emptyDict) (t':=s.toks) (λb u q=>b_ _ q) (aI _) ⟨_,e1⟩;refine I1.laid (a:=s.heap.objs.size+1) (o:=.ins C s.heap.objs.size []) (t':=s.toks) (λb u q=>b_ _ q) (Nat.le_of_eq (Heap.size_push _ _)) ?_;have ne:s.heap.objs.size≠s.heap.objs.size+1:=b5 (Nat.lt_succ_self _);refine⟨by rw[eK ne,cV],aP _,ne,e2,λ_=>none,(Heap.Ns1.of_empty e3).at λo q=>b_ _ q,λ_=>True.intro,λy hy=>cJ rfl hy⟩
def aq0{prog:Program}{w:World}{env:Env}{e:Expr}{f:Str}{pos:Pos}{s:Shared}{Q:Value->Shared->Prop}(hb:attributeBase e f env (eval e env)=eval e env)
  (h:wpAny (model prog w) A (eval e env) (λo s₁=>wpAny (model prog w) A (getAttr o f true) Q E s₁) E s):wpAny (model prog w) A (eval (.Attribute e f pos) env) Q E s:=
 Attribute_any_ h (by rw[arm_eval_Attribute,hb])
end
inductive ar8(K:b6)(f:Str)(Q:VK)(x:V)(H1:Hp):Prop|m(a C dx fs v)(_:x= .ref a)(_:H1 a=some (.ins C dx fs))(_:lq K C)(_:gz K C f)(_:fs.lookup f=some v)(_:Q v H1)
def gT(K:b6)(ta:TE)(f:Str):TE:=λσ H Q=>ta σ H λx H1=>ar8 K f Q x H1
inductive at6(K:b6)(f:Str)(D:Ends)(σ:St)(y:V)(x:V)(H2:Hp):Prop|m(a C dx fs)(_:x= .ref a)(_:H2 a=some (.ins C dx fs))(_:lq K C)(_:gz K C f)(_:fs.length<1000)(_:D.nx σ (upd H2 a (.ins C dx (eG f y fs))))
def aK7(K:b6)(ta tv:TE)(f:Str):TS:=λD σ H=>tv σ H λy H1=>ta σ H1 λx H2=>at6 K f D σ y x H2
section
variable {X:Cx}{o e value:Expr}{f:Str}{pos pos' sS:Pos}{ta tv:TE}
def dH(he:PE X e ta)(hb:attributeBase e f X.env (eval e X.env)=eval e X.env):PE X (.Attribute e f pos) (gT X.K ta f):=by
 intro pins s σ H Q I h;refine aq0 hb (dY (he pins s σ H _ I h) λu s1 ⟨x,H1,I1,rx,a,C,dx,fs,v,ex,ea,c,n,l,q⟩=>?_);subst ex;obtain rfl:u=Value.ref a:=rx;exact Yj I1 ea c n l λu' s2 I2 ru=>⟨v,H1,I2,ru,q⟩
def iC(ha:PE X o ta)(hv:PE X value tv)(hs:swapsWith value (some (.Attribute o f pos')) pos.line X.env=pure false):PS X (.Assign [.Attribute o f pos'] value pos) (aK7 X.K ta tv f):=by
 intro pins s σ H D I h;refine plainObj_wpAny_Assign_Attribute (dY (hv pins s σ H _ I h) λu s1 ⟨y,H1,I1,ry,q⟩=>dY (ha pins s1 σ H1 _ I1 q) λov s2 ⟨x,H2,I2,rx,a,C,dx,fs,ex,ea,c,n,l,q2⟩=>?_) hs;subst ex;obtain rfl:ov=Value.ref a:=rx;exact X6 I2 ea c n l ry λs3 I3=>⟨σ,_,I3,q2⟩
end
structure gU(k:Nat)(A:Around):Prop where
 hd:A.handled=none
 dp:A.depth+3*k+5<recursionLimit
 un:A.units+16*k+200<cLine
def gU.mono{j k:Nat}{A:Around}(r:gU k A)(h:j<=k):gU j A:=⟨r.hd,by have:=r.dp;lia,by have:=r.un;lia⟩
theorem gU.deeper{k:Nat}{A:Around}(r:gU (k+1) A)(env:Env):gU k (A.deeper env):=
 ⟨r.hd,by have:=r.dp;show A.depth+1+3*k+5<_;lia,by have:=r.un;show A.units+3+16*k+200<_;lia⟩
def Yh{A:Around}{C:Addr}{us:List Value}{kw:List (Str×Value)}:(A.under (.builtin "type.__call__" ⟨.ref C::us,kw⟩)).depth=A.depth+1:=by
 first |rfl|simp[Around.under,Code.weight,Code.isCreation,Code.isGuard,Code.isCaller,Code.frames,Code.isFrame,guardIds]
def Yg{A:Around}{C:Addr}{us:List Value}{kw:List (Str×Value)}:(A.under (.builtin "type.__call__" ⟨.ref C::us,kw⟩)).units=A.units+1:=by
 first |rfl|simp[Around.under,Code.cUnits,Code.frames,Code.isFrame]
def gU.make{k:Nat}{A:Around}(r:gU (k+1) A)(C:Addr)(us:List Value)(kw:List (Str×Value)):gU k (A.under (.builtin "type.__call__" ⟨.ref C::us,kw⟩)):=
 ⟨r.hd,by have:=r.dp;rw[Yh];lia,by have:=r.un;rw[Yg];lia⟩
theorem gU.depth{k:Nat}{A:Around}(r:gU k A):A.depth<recursionLimit:=by have:=r.dp;lia
theorem gU.units{k:Nat}{A:Around}(r:gU k A):A.units+64<cLine:=by have:=r.un;lia
def nI:TA:=λ_ H Q=>Q [] H
def kP(ta:TE)(tr:TA):TA:=λσ H Q=>ta σ H λx H1=>tr σ H1 λxs H2=>Q (x::xs) H2
section
variable {X:Cx}{e:Expr}{es:List Expr}{te:TE}{t:TA}{pos:Pos}
def ir:PA X [] nI:=λ_ _ _ _ H Q I h=>Calls.spliced_nil ⟨[],H,I,.nil,h⟩
def c_(ha:PE X e te)(hr:PA X es t)(hs:starEach (e::es) X.env=(false,eval e X.env)::starEach es X.env:=by rfl):PA X (e::es) (kP te t):=by
 intro pos pins s σ H Q I h;rw[hs];show wpAny _ _ (spliced ((false,eval e X.env)::backTo pos (starEach es X.env))) _ _ s;refine Calls.spliced_cons (dY (ha pins s σ H _ I h) λu s1 ⟨x,H1,I1,r1,q1⟩=>?_);exact dY (hr pos pins s1 σ H1 _ I1 q1) λus s2 ⟨xs,H2,I2,r2,q2⟩=>⟨x::xs,H2,I2,.cons r1 r2,q2⟩
def cT(ha:PE X e te)(hs:starEach [e] X.env=(false,eval e X.env)::starEach [] X.env:=by rfl):PA X [e] (kP te nI):=c_ ha ir hs
def aJ5(t:TA):TE:=λσ H Q=>t σ H λxs H1=>xs.length<=sizeLine/\∀p,H1 p=none->Q (.ref p) (upd H1 p (.tup xs))
def Gn(t:TA):TE:=λσ H Q=>t σ H λxs H1=>xs.length<=sizeLine/\∀p,H1 p=none->Q (.ref p) (upd H1 p (.lst xs))
def Fx{x1}(h:PA X es t):PE X (.Tuple es x1 pos) (aJ5 t):=by
 intro pins s σ H Q I hq;refine wpAny_Tuple_spliced (dY (h pos pins s σ H _ I hq) λus s1 ⟨xs,H1,I1,r,z,q⟩=>⟨by rw[<-r.length];exact z,?_⟩);have hf:H1 s1.heap.objs.size=none:=I1.hok.fresh (aI _);refine⟨.ref s1.heap.objs.size,upd H1 s1.heap.objs.size (.tup xs),I1.laid (t':=s1.toks) (λb u e=>b_ _ e) (aI _) ?_,rfl,q _ hf⟩;exact⟨z,us,r,⟨_,cu _ rfl,rfl,_,rfl⟩⟩
def fJ(h:PA X es t):PE X (.List es pos) (Gn t):=by
 intro pins s σ H Q I hq;refine wpAny_List_spliced (dY (h pos pins s σ H _ I hq) λus s1 ⟨xs,H1,I1,r,z,q⟩=>⟨by rw[<-r.length];exact z,?_⟩);have hf:H1 s1.heap.objs.size=none:=I1.hok.fresh (aI _);refine⟨.ref s1.heap.objs.size,upd H1 s1.heap.objs.size (.lst xs),I1.laid (t':=s1.toks) (λb u e=>b_ _ e) (aI _) ?_,rfl,q _ hf⟩;exact⟨z,us,0,r,cu _ rfl⟩
end
abbrev Sp:=List V->Hp->VK->XK->Prop
abbrev jx:=List Env->Hp->Shared->XK->Value->Shared->Prop
structure uM(P:Program)(w:World)(K:b6)(mg:Str->Option Value)(base:Heap)(A:Around)(outer:List Env)(s:Shared)(H:Hp):Prop where
 frames:A.frames=some outer
 mod:Mod K mg base
 bs:∀b o,base.get? b=some o->s.heap.get? b=some o/\H b=none
 qU:base.objs.size<=s.heap.objs.size
 lI:s.heap.FunFrames base outer
 tX:∀b∈frs outer,H b=none
 hok:gw P w H s.heap
 bare:AllBare s.gens
inductive CE(outer:List Env)(P:Program)(w:World)(H:Hp)(s:Shared)(Q:VK)(u:Value)(s':Shared):Prop|m(v H')(_:s'.os=s.os)(_:AllBare s'.gens)(_:Un (frs outer) [] H H' s.heap s'.heap)(_:gw P w H' s'.heap)(_:RelV v u)(_:Q v H')
def CR(CX:jx)(outer:List Env)(P:Program)(w:World)(H:Hp)(s:Shared)(Q:VK)(E:XK)(r:Result)(s':Shared):Prop:=
 match r with
 | .ok (.ret u)=>CE outer P w H s Q u s'
 | .ok _=>False
 | .error e=>CX outer H s E e s'
structure dJ(P:Program)(w:World)(K:b6)(mg:Str->Option Value)(base:Heap)(CX:jx)(k:Nat)(f:Addr)(fd:FuncData)(ps:List Str)(sp:Sp):Prop where
 len:∀vs H Q E,sp vs H Q E->vs.length=ps.length
 run:∀(A:Around) (outer:List Env) (s:Shared) (H:Hp) (args:Args) (us:List Value) (vs:List V) (Q:VK) (E:XK),gU k A->uM P w K mg base A outer s H->BindsTo s fd args (ps.zip us)->Vals vs us->sp vs H Q E->
  codeAny (model P w) A (.call (.ref f) args) (CR CX outer P w H s Q E) s
def uM.make{P:Program}{w:World}{K:b6}{mg:Str->Option Value}{base:Heap}{A:Around}{outer:List Env}{s:Shared}{H:Hp}(e:uM P w K mg base A outer s H)(C:Addr)(us:List Value)(kw:List (Str×Value)):
  uM P w K mg base (A.under (.builtin "type.__call__" ⟨.ref C::us,kw⟩)) outer s H:=⟨by first |exact e.frames|(simpa[Around.under,Code.envs,Code.isFrame,pushEnvs] using e.frames),e.mod,e.bs,e.qU,e.lI,e.tX,e.hok,e.bare⟩
section
variable {X:Cx}{pins:List (Addr×Obj)}{σ:St}{H:Hp}{s s':Shared}
def Inv.RO(I:Inv X pins σ H s):uM X.prog X.w X.K X.mg X.base X.A X.stack s H:=
 ⟨I.ok.frames,I.ok.mod,I.bs,aV I.ok.qU I.sz,I.stack,I.yf,I.hok,I.bare⟩
def Inv.after{Q:VK}{u:Value}(I:Inv X pins σ H s)(h:CE X.stack X.prog X.w H s Q u s'):EP X pins σ Q u s':=by
 obtain⟨v,H',os,bare,un,hok,r,q⟩:=h;obtain⟨hh,g,d,t,os'⟩:=s';obtain rfl:os'=s.os:=os;exact⟨v,H',I.call (h':=hh) (g':=g) (d':=d) (t':=t) (ch:=[]) un hok bare (λb z=>cJ z (by simp)),r,q⟩
end
def wk(sp:Sp)(k_:List V)(E:XK)(t:TA):TE:=λσ H Q=>t σ H λvs H1=>sp (vs++k_) H1 Q E
def yE(C:Addr)(sp:Sp)(k_:List V)(E:XK)(t:TA):TE:=λσ H Q=>t σ H λvs H1=>∀x dx,H1 x=none->H1 dx=none->dx≠x->
 sp (.ref x::(vs++k_)) (upd (upd H1 dx (.own x)) x (.ins C dx [])) (λv H2=>v= .dI/\Q (.ref x) H2) E
def Binds(K:b6)(fd:FuncData)(ps:List Str)(ds:List Value):Prop:=
 ∀(s:Shared) (us:List Value),K.In s.heap->(us++ds).length=ps.length->BindsTo s fd ⟨us,[]⟩ (ps.zip (us++ds))
def Binds.all{K:b6}{fd:FuncData}{ps:List Str}(h:∀us:List Value,us.length=ps.length->bindArgs fd ⟨us,[]⟩=pure (ps.zip us)):Binds K fd ps []:=λs us _ hl=>by
 rw[aU]at hl ⊢;exact .of_eq (h us hl)
def Passes(CX:jx)(X:Cx)(E:XK):Prop:=∀(pins:List (Addr×Obj)) (σ:St) (H:Hp) (s:Shared) (e:Value) (s':Shared),Inv X pins σ H s->CX X.stack H s E e s'->X.xe e s'
section
variable {X:Cx}{CX:jx}{k:Nat}{f C:Addr}{fd:FuncData}{ps:List Str}{sp:Sp}{k_:List V}{ds:List Value}{E:XK}{x m:Str}{p pos apos:Pos}{e o:Expr}{es:List Expr}{ta:TE}{t:TA}
def at7{pins:List (Addr×Obj)}{σ:St}{H:Hp}{s:Shared}{Q:VK}{us:List Value}{vs:List V}(F:dJ X.prog X.w X.K X.mg X.base CX k f fd ps sp)(hr:gU k X.A)(hb:Binds X.K fd ps ds)(hd:Vals k_ ds)(hx:Passes CX X E)
  (I:Inv X pins σ H s)(r:Vals vs us)(h:sp (vs++k_) H Q E):wpAny (model X.prog X.w) X.A (call (.ref f) us) (EP X pins σ Q) X.xe s:=by
 have r2:Vals (vs++k_) (us++ds):=r.append hd;have hl:(us++ds).length=ps.length:=by rw[<-r2.length];exact F.len _ _ _ _ h
 refine wpAny_call (codeAny_mono (F.run X.A X.stack s H ⟨us,[]⟩ (us++ds) (vs++k_) Q E hr I.RO (hb s us I.kZ hl) r2 h) λr s' hq=>?_);cases r with
 |error e=>exact hx pins σ H s e s' I hq
 |ok fl=>
  cases fl with
  |ret u=>exact I.after hq
  |next=>exact False.elim hq
  |brk=>exact False.elim hq
  |cont=>exact False.elim hq
def ai7(F:dJ X.prog X.w X.K X.mg X.base CX k f fd ps sp)(hr:gU k X.A)(hg:Gl X x)(hm:X.mg x=some (.ref f))(hk:keepIn X.K (.ref f)=true)(hb:Binds X.K fd ps ds)(hd:Vals k_ ds)(hx:Passes CX X E)
  (ha:PA X (e::es) t)(k9:(x==("__debug__":Str))=false:=by decide)(he:starEach (e::es) X.env=(false,eval e X.env)::starEach es X.env:=by rfl)(fh:(backTo pos (starEach es X.env)).any (·.1)=false:=by rfl):
  PE X (.Call (.Name x p) (e::es) [] pos) (wk sp k_ E t):=by
 intro pins s σ H Q I h;refine wpAny_Call_Name_kw (vR I hg hm ?_ k9);refine callWith_K (h₀:=X.base) I.ok.mod.Cp hk (dY (ha pos pins s σ H _ I h) λus s1 ⟨vs,H1,I1,r,q⟩=>⟨I1.kZ,?_⟩) he fh;exact at7 F hr hb hd hx I1 r q
structure Mk(K:b6)(C f:Addr):Prop where
 makes:makesIn K C=true
 init:findIn K (.ref C) "__init__"=some (some (.ref f))
 fn:isFn K (.ref f)=true
 kp:keepIn K (.ref C)=true
def Z5{pins:List (Addr×Obj)}{σ:St}{H:Hp}{s:Shared}{Q:VK}{us:List Value}{vs:List V}(M:Mk X.K C f)(F:dJ X.prog X.w X.K X.mg X.base CX k f fd ps sp)(hr:gU (k+1) X.A)(hb:Binds X.K fd ps ds)(hd:Vals k_ ds)
  (hx:Passes CX X E)(I:Inv X pins σ H s)(r:Vals vs us)
  (h:∀x dx,H x=none->H dx=none->dx≠x->sp (.ref x::(vs++k_)) (upd (upd H dx (.own x)) x (.ins C dx [])) (λv H2=>v= .dI/\Q (.ref x) H2) E):
  wpAny (model X.prog X.w) X.A (call (.ref C) us) (EP X pins σ Q) X.xe s:=by
 have hq:=h (s.heap.objs.size+1) s.heap.objs.size (I.hok.fresh (Nat.le_succ _)) (I.hok.fresh (aI _)) (b5 (Nat.lt_succ_self _));have I2:=Inv.made (C:=C) I;have r2:Vals (V.ref (s.heap.objs.size+1)::(vs++k_)) (Value.ref (s.heap.objs.size+1)::(us++ds)):=.cons rfl (r.append hd);have hl:(Value.ref (s.heap.objs.size+1)::us++ds).length=ps.length:=by
  have e:=r2.length;rw[F.len _ _ _ _ hq]at e;exact e.symm
 refine wpAny_call (ad0 (f:=f) I.kZ M.makes M.init (beq_iff_eq.mp M.fn) (codeAny_mono (F.run _ X.stack _ _ ⟨Value.ref (s.heap.objs.size+1)::us,[]⟩ (Value.ref (s.heap.objs.size+1)::(us++ds)) _ _ E (hr.make C us [])
  (I2.RO.make C us []) (hb _ (Value.ref (s.heap.objs.size+1)::us) I2.kZ hl) r2 hq) λr s' nX=>?_))
 cases r with
 |error e=>exact hx pins σ _ _ e s' I2 nX
 |ok fl=>
  cases fl with
  |ret u=>
   obtain⟨v,H',I3,rv,ev,q3⟩:=I2.after nX;subst ev;exact⟨rv,⟨V.ref (s.heap.objs.size+1),H',I3,rfl,q3⟩⟩
  |next=>exact False.elim nX
  |brk=>exact False.elim nX
  |cont=>exact False.elim nX
def ai6(M:Mk X.K C f)(F:dJ X.prog X.w X.K X.mg X.base CX k f fd ps sp)(hr:gU (k+1) X.A)(hg:Gl X x)(hm:X.mg x=some (.ref C))(hb:Binds X.K fd ps ds)(hd:Vals k_ ds)(hx:Passes CX X E)
  (ha:PA X (e::es) t)(k9:(x==("__debug__":Str))=false:=by decide)(he:starEach (e::es) X.env=(false,eval e X.env)::starEach es X.env:=by rfl)(fh:(backTo pos (starEach es X.env)).any (·.1)=false:=by rfl):
  PE X (.Call (.Name x p) (e::es) [] pos) (yE C sp k_ E t):=by
 intro pins s σ H Q I h;refine wpAny_Call_Name_kw (vR I hg hm ?_ k9);refine callWith_K (h₀:=X.base) I.ok.mod.Cp M.kp (dY (ha pos pins s σ H _ I h) λus s1 ⟨vs,H1,I1,r,q⟩=>⟨I1.kZ,?_⟩) he fh;exact Z5 M F hr hb hd hx I1 r q
end
structure dP(N P:List Str)(sc:Scope):Prop where
 kind:sc.kind= .function
 co:sc.isCoroutine=false
 gen:sc.isGenerator=false
 nd:N.Nodup
 pre:N.take P.length=P
 par:∀x∈P,sc.names.lookup x=some .local\/sc.names.lookup x=some .cell
 aA2:∀y∈sc.names,y.2≠.free
def dW{N P:List Str}{sc:Scope}(a:sc.kind= .function:=by exact rfl)(b:sc.isCoroutine=false:=by exact rfl)(c:sc.isGenerator=false:=by exact rfl)(d:N.Nodup:=by decide+kernel)(e:N.take P.length=P:=by exact rfl)(f:∀x∈P,sc.names.lookup x=some .local\/sc.names.lookup x=some .cell:=by decide+kernel)(g:∀y∈sc.names,y.2≠.free:=by decide+kernel):dP N P sc:=⟨a,b,c,d,e,f,g⟩
theorem K9{kindOf:Str->Option NameKind}{x:Str}:∀{binds:List (Str×Value)} {m:Str->Option Value},(∀v,(x,v)∉binds)->bindL kindOf binds m x=m x
 |[],_,_=>rfl
 |(n,v)::r,m,h=>by
  unfold bindL;rw[K9 λw hw=>h w (aA _ hw)];split
  .have:x≠n:=by rintro rfl;exact h v aB
   simp[this]
  .rfl
theorem La{kindOf:Str->Option NameKind}{x:Str}:∀{binds:List (Str×Value)} {m:Str->Option Value},(∀v,(x,v)∉binds)->bindC kindOf binds m x=m x
 |[],_,_=>rfl
 |(n,v)::r,m,h=>by
  unfold bindC;rw[La λw hw=>h w (aA _ hw)];split
  .rfl
  .have:x≠n:=by rintro rfl;exact h v aB
   simp[this]
theorem K_{kindOf:Str->Option NameKind}{x:Str}{v:Value}:∀{P:List Str} {vs:List Value} {i:Nat} {m:Str->Option Value},P.Nodup->P[i]? =some x->vs[i]? =some v->kindOf x=some .local->
  bindL kindOf (P.zip vs) m x=some v
 |[],_,_,_,_,h,_,_=>by simp at h
 |_::_,[],_,_,_,_,h,_=>by simp at h
 |p::P,w::vs,0,m,nd,h1,h2,hk=>by
  simp at h1 h2;subst h1;subst h2;show bindL kindOf ((p,w)::P.zip vs) m p=_;unfold bindL;rw[K9 λv hv=>(List.nodup_cons.mp nd).1 (List.of_mem_zip hv).1,ah hk];simp
 |p::P,w::vs,i+1,m,nd,h1,h2,hk=>by
  show bindL kindOf ((p,w)::P.zip vs) m x=_;unfold bindL;exact K_ (i:=i) (List.nodup_cons.mp nd).2 (by simpa using h1) (by simpa using h2) hk
theorem Lb{kindOf:Str->Option NameKind}{x:Str}{v:Value}:∀{P:List Str} {vs:List Value} {i:Nat} {m:Str->Option Value},P.Nodup->P[i]? =some x->vs[i]? =some v->kindOf x≠some .local->
  bindC kindOf (P.zip vs) m x=some v
 |[],_,_,_,_,h,_,_=>by simp at h
 |_::_,[],_,_,_,_,h,_=>by simp at h
 |p::P,w::vs,0,m,nd,h1,h2,hk=>by
  simp at h1 h2;subst h1;subst h2;show bindC kindOf ((p,w)::P.zip vs) m p=_;unfold bindC;rw[La λv hv=>(List.nodup_cons.mp nd).1 (List.of_mem_zip hv).1,aa hk];simp
 |p::P,w::vs,i+1,m,nd,h1,h2,hk=>by
  show bindC kindOf ((p,w)::P.zip vs) m x=_;unfold bindC;exact Lb (i:=i) (List.nodup_cons.mp nd).2 (by simpa using h1) (by simpa using h2) hk
def start(N:List Str)(vs:List V):St:=vs.map some++List.replicate (N.length-vs.length) none
def gJ(CX:jx)(P:Program)(w:World)(K:b6)(mg:Str->Option Value)(base:Heap)(N:List Str)(qual:Str)(scope:Scope)(f:Addr)(cd:Value)(A:Around)(outer:List Env)(s:Shared)(H:Hp)(E:XK):Cx where
 prog:=P
 w:=w
 K:=K
 mg:=mg
 base:=base
 A:=A.deeper (envOfC qual scope s.heap.objs.size f cd)
 N:=N
 iw:=s
 Ae:=H
 env:=envOfC qual scope s.heap.objs.size f cd
 outer:=outer
 stack:=envOfC qual scope s.heap.objs.size f cd::outer
 ex:=[]
 calm:=true
 fn:=λ_=>true
 pn:=[]
 xe:=λe s'=>wpAny (model P w) (A.deeper (envOfC qual scope s.heap.objs.size f cd)) (leaving (envOfC qual scope s.heap.objs.size f cd) e) (λ_ G_=>CX outer H s E e G_) (λe' G_=>CX outer H s E e' G_) s'
def L4{sc:Scope}{n:Nat}{x:Str}(h:sc.names.lookup x=some .cell):∃c,(cellsFrom n sc.names []).lookup x=some c:=by
 have q:=cellsFrom_some sc.names n [] (.inl h);exact Option.isSome_iff_exists.mp q
def Zh{CX:jx}{P:Program}{w:World}{K:b6}{mg:Str->Option Value}{base:Heap}{N ps:List Str}{qual:Str}{scope:Scope}{f:Addr}{cd:Value}{A:Around}{outer:List Env}{s s1:Shared}{H:Hp}{E:XK}{us:List Value}{vs:List V}
  (S:dP N ps scope)(hd:A.handled=none)(e0:uM P w K mg base A outer s H)(hl:vs.length=ps.length)(r:Vals vs us)
  (x:InCallC s s.heap.objs.size (bindL (envOfC qual scope s.heap.objs.size f cd).kindOf (ps.zip us) λ_=>none) (cellsFrom (s.heap.objs.size+1) scope.names []) (bindC (envOfC qual scope s.heap.objs.size f cd).kindOf (ps.zip us) λ_=>none) s1):
  Inv (gJ CX P w K mg base N qual scope f cd A outer s H E) [] (start N vs) H s1:=by
 have fh:ps.length<=N.length:=by have:=cI List.length S.pre;rw[aW]at this;lia
 obtain⟨h1,tk,rfl,hk⟩:=x.done;have wY:∀b:Addr,b∉(gJ CX P w K mg base N qual scope f cd A outer s H E).ex:=λb z=>cJ (show b∈([]:List Addr)from z) (by simp);refine⟨⟨e0.mod,S.kind,rfl,rfl,aI _,λy z c h1 h2=>?_,λy hy=>?_,λy c _ h=>?_,λ_=>hd,Around.frames_deeper e0.frames,.inr ⟨rfl,rfl⟩,λb z=>cJ z (wY b),e0.bs,e0.qU,λb _ _=>wY b,λb z=>cJ z (wY b),e0.lI,e0.tX⟩,
  rfl,e0.bare,Un.kept hk,⟨_,x.toInCall.ns,λi y v h1 h2 h3=>?_⟩,λy c h=>⟨_,x.cell y c h⟩,e0.hok.fresh (aI _),λy c h=>?_,λp hp=>cJ (show p∈([]:List (Addr×Obj))from hp) (by simp),e0.hok.kept hk,?_⟩
 .exact name_of_addr x.apart (cz h1) (cz h2)
 .have hy:scope.names.lookup y=some .cell\/scope.names.lookup y=some .free:=hy;rcases hy with hy|hy
  .exact L4 hy
  .exact cJ rfl (S.aA2 _ (cz hy))
 .exact Nat.le_of_lt (x.above y c (cz h))
 .have hi:i<vs.length:=by
   unfold start at h2
   by_cases hi:i<vs.length
   .exact hi
   .rw[bN (by simpa using hi)]at h2;rw[List.getElem?_replicate]at h2;split at h2<;>cases h2
  have ha:vs[i]? =some v:=by
   unfold start at h2;rw[List.getElem?_append_left (by simpa using hi),aR]at h2;cases e:vs[i]? with
   |none=>rw[e]at h2;cases h2
   |some a=>rw[e]at h2;cases h2;rfl
  obtain⟨u,hu,rv⟩:=r.get ha;have hp:ps[i]? =some y:=by
   rw[<-S.pre,List.getElem?_take_of_lt ()];exact h1
  have Sh:ps.Nodup:=by rw[<-S.pre];exact S.nd.sublist (List.take_sublist _ _)
  refine⟨u,rv,?_⟩;rcases S.par y (bx hp)with k|k
  .exact .inl ⟨k,K_ Sh hp hu k⟩
  .obtain⟨c,e⟩:=L4 (n:=s.heap.objs.size+1) k;refine .inr ⟨.inl k,c,e,?_⟩;have q:=x.cell y c e;rw[Lb Sh hp hu (by show scope.names.lookup y≠_;rw[k];decide)]at q;exact q
 .exact e0.hok.fresh (Nat.le_of_lt (x.above y c (cz h)))
 .unfold start;show _=N.length;rw[aC,az,List.length_replicate];lia
def Qq{CX:jx}{P:Program}{w:World}{K:b6}{mg:Str->Option Value}{base:Heap}{k:Nat}{f:Addr}{name qual:Str}{params:Arguments}{body:List Stmt}{scope:Scope}{dV kV doc pm c8 ct oc:Value}{an od:Option Addr}
  {jU:Array (Option Value)}{N ps:List Str}{sp:Sp}(lk:K.lookup f=some ⟨oc,od,.func (fnOf name qual params body scope dV kV doc pm an c8 ct),jU⟩)(lX:codeIn K c8 qual=true)(S:dP N ps scope)
  (len:∀vs H Q E,sp vs H Q E->vs.length=ps.length)
  (rA:∀(A:Around) (outer:List Env) (s:Shared) (H:Hp) (vs:List V) (Q:VK) (E:XK),gU k (A.deeper (envOfC qual scope s.heap.objs.size f c8))->sp vs H Q E->
   ∃t,gb (gJ CX P w K mg base N qual scope f c8 A outer s H E) body t/\t {nx:=λ_ H'=>Q .dI H',rt:=Q} (start N vs) H):
  dJ P w K mg base CX (k+1) f (fnOf name qual params body scope dV kV doc pm an c8 ct) ps sp:=by
 refine⟨len,λA outer s H args us vs Q E hr e0 hb r nU=>?_⟩;have hl:=len _ _ _ _ nU;have KX:K.In s.heap:=e0.mod.Cp.keeps λb o e=>(e0.bs b o e).1;have lim:s.heap.NoLimit:=e0.mod.nolimit.keeps λb o e=>(e0.bs b o e).1;have aH8:∀y∈ps.zip us,scope.names.lookup y.1=some .local\/(scope.names.lookup y.1=some .cell/\((cellsFrom (s.heap.objs.size+1) scope.names []).lookup y.1).isSome=true):=λ⟨n,v⟩ hy=>by
  rcases S.par n (List.of_mem_zip hy).1 with q|q
  .exact .inl q
  .exact .inr ⟨q,cellsFrom_some _ _ _ (.inl q)⟩
 refine codeAny_call_function hr.depth (KX _ _ lk) rfl S.co S.gen rfl (codeRec_of KX lX) (hb _ _ _ _ ?_);refine wpAny_newFunctionEnv_cells S.kind aH8 λenv he s1 x=>?_;subst he;refine⟨lim.keeps x.toInCall.keep,codeAny_func ?_⟩;obtain⟨t,ht,hq⟩:=rA A outer s H vs Q E (hr.deeper _) nU;have I:Inv (gJ CX P w K mg base N qual scope f c8 A outer s H E) [] (start N vs) H s1:=Zh S hr.hd e0 hl r x;refine wpAny_mono (ht [] s1 (start N vs) H _ I hq) (λfl s' hs=>?_) λe s' hs=>hs;have fin:∀{σ':St} {H':Hp} {v:V} {u:Value},Inv (gJ CX P w K mg base N qual scope f c8 A outer s H E) [] σ' H' s'->RelV v u->Q v H'->CE outer P w H s Q u s':=
  λ{σ' H' v u} J rv q=>⟨v,H',J.os,J.bare,J.base,J.hok,rv,q⟩
 cases fl with
 |ret u=>
  obtain⟨v,σ',H',J,rv,q⟩:=hs;exact fin J rv q
 |next=>
  obtain⟨σ',H',J,q⟩:=hs;exact fin (v:=V.dI) (u:=Value.none) J rfl q
 |brk=>
  obtain⟨_,_,_,q⟩:=hs;exact False.elim q
 |cont=>
  obtain⟨_,_,_,q⟩:=hs;exact False.elim q
section
variable {X:Cx}{x:Str}{p pos:Pos}{e:Expr}{es:List Expr}{t:TA}{id T:String}{r:List V->Hp->VK->Prop}
def Ce(r:List V->Hp->VK->Prop)(t:TA):TE:=λσ H Q=>t σ H λvs H1=>r vs H1 Q
def eN(hc:mK X (.builtin id) r)(hg:Gl X x)(hm:X.mg x=none)(hv:bootBuiltins x=some (.builtin id))(ha:PA X (e::es) t)(hn:x≠"__name__":=by decide)(k9:(x==("__debug__":Str))=false:=by decide)
  (he:starEach (e::es) X.env=(false,eval e X.env)::starEach es X.env:=by rfl)(fh:(backTo pos (starEach es X.env)).any (·.1)=false:=by rfl):PE X (.Call (.Name x p) (e::es) [] pos) (Ce r t):=by
 intro pins s σ H Q I h;refine wpAny_Call_Name_kw (yu I hg hm hv ?_ hn k9);exact PyProof.Rows.callWith_builtin1 (dY (ha pos pins s σ H _ I h) λus s1 ⟨vs,H1,I1,r1,q1⟩=>hc pins s1 σ H1 vs us Q I1 r1 q1) he fh
def YW(hc:mK X (.type T) r)(hg:Gl X x)(hm:X.mg x=none)(hv:bootBuiltins x=some (.type T))(ha:PA X (e::es) t)(hn:x≠"__name__":=by decide)(k9:(x==("__debug__":Str))=false:=by decide)
  (he:starEach (e::es) X.env=(false,eval e X.env)::starEach es X.env:=by rfl)(fh:(backTo pos (starEach es X.env)).any (·.1)=false:=by rfl):PE X (.Call (.Name x p) (e::es) [] pos) (Ce r t):=by
 intro pins s σ H Q I h;refine wpAny_Call_Name_kw (yu I hg hm hv ?_ hn k9);exact PyProof.Rows.callWith_type1 (dY (ha pos pins s σ H _ I h) λus s1 ⟨vs,H1,I1,r1,q1⟩=>hc pins s1 σ H1 vs us Q I1 r1 q1) he fh
end
end L2
namespace HT
open PySem PyProof.Rows
section
variable {prog:Program}{w:World}{A:Around}{E:Value->Shared->Prop}{s:Shared}
def e9(n d:Nat):Option Int->Nat
 |none=>d
 |some v=>if v<0 then(v+(n:Int)).toNat else min v.toNat n
def qc(n d k:Nat):e9 n d (some (k:Int))=min k n:=by
 show(if(k:Int)<0 then((k:Int)+(n:Int)).toNat else min (k:Int).toNat n)=min k n;rw[aa (),bZ]
def NK(n d:Nat)(hd:d<=n)(o:Option Int):e9 n d o<=n:=by
 cases o with
 |none=>exact hd
 |some v=>
  show(if v<0 then(v+(n:Int)).toNat else min v.toNat n)<=n
  by_cases hv:v<0
  .rw[ah hv];lia
  .rw[aa hv];exact Nat.min_le_right _ _
end
end HT
namespace L2
open PySem PySem.Spec PyProof.Rows
abbrev TO:=St->Hp->(Option Int->Hp->Prop)->Prop
def PO(X:Cx)(e:Option Expr)(t:TO):Prop:=
 ∀(pins:List (Addr×Obj)) (s:Shared) (σ:St) (H:Hp) (Q:Option Int->Hp->Prop),Inv X pins σ H s->t σ H Q->
  wpAny (model X.prog X.w) X.A (evalPart e X.env) (λu s'=>∃o H',Inv X pins σ H' s'/\IsPart u o/\Q o H') X.xe s
def Me:TO:=λ_ H Q=>Q none H
inductive ag1(Q:Option Int->Hp->Prop)(x:V)(H1:Hp):Prop|m(i)(_:x= .int i)(_:Q (some i) H1)
def BH(t:TE):TO:=λσ H Q=>t σ H λx H1=>ag1 Q x H1
section
variable {X:Cx}{e:Expr}{te:TE}{lo hi:Option Expr}{tl th:TO}{pos p2:Pos}
def gQ:PO X none Me:=by
 intro pins s σ H Q I h;rw[evalPart_none];exact b9 ⟨none,H,I,.none,h⟩
def eY(h:PE X e te):PO X (some e) (BH te):=by
 intro pins s σ H Q I hw;rw[evalPart_some];refine dY (h pins s σ H _ I hw) λu s1 ⟨x,H1,I1,r1,q1⟩=>?_;obtain⟨i,rfl,q⟩:=q1;obtain⟨t,rfl⟩:=r1;exact⟨some i,H1,I1,.int i t,q⟩
def IF(X:Cx)(r:V->Option Int->Option Int->Hp->VK->Prop):Prop:=
 ∀(pins:List (Addr×Obj)) (s:Shared) (σ:St) (H:Hp) (x:V) (v vl vu:Value) (lo hi:Option Int) (sl:Addr) (Q:VK),Inv X pins σ H s->RelV x v->s.heap.IsSliceOf sl vl vu .none->IsPart vl lo->IsPart vu hi->r x lo hi H Q->
  ∃T id,typeLookup (.type T) "__getitem__"=pure (some (.builtin id))/\s.TypeIs v T/\wpAny (model X.prog X.w) X.A (getItem v (.ref sl)) (EP X pins σ Q) X.xe s
def GX(r:V->Option Int->Option Int->Hp->VK->Prop)(te:TE)(tl th:TO):TE:=λσ H Q=>te σ H λx H1=>tl σ H1 λl H2=>th σ H2 λu H3=>r x l u H3 Q
def fP{r:V->Option Int->Option Int->Hp->VK->Prop}(hr:IF X r)(he:PE X e te)(hl:PO X lo tl)(hu:PO X hi th):PE X (.Subscript e (.Slice lo hi none p2) pos) (GX r te tl th):=by
 intro pins s σ H Q I h;refine Subscript_ (dY (he pins s σ H _ I h) λv s1 ⟨x,H1,I1,r1,q1⟩=>?_);refine wpAny_Slice (dY (hl pins s1 σ H1 _ I1 q1) λvl s2 ⟨l,H2,I2,pl,q2⟩=>dY (hu pins s2 σ H2 _ I2 q2) λvu s3 ⟨u,H3,I3,pu,q3⟩=>?_);rw[evalPart_none];refine b9 ?_;have I4:Inv X pins σ H3 {s3 with heap:=s3.heap.push {cls:=.type "slice",data:=.fields #[vl,vu,.none]}}:=I3.kept (t':=s3.toks) λb ob q=>b_ _ q;obtain⟨T,id,hT,ht,hg⟩:=hr pins {s3 with heap:=s3.heap.push {cls:=.type "slice",data:=.fields #[vl,vu,.none]}} σ H3 x v vl vu l u s3.heap.objs.size Q I4 r1 (Heap.IsSliceOf.new ..) pl pu q3;show wpAny (model X.prog X.w) X.A (subscriptTail e (.Slice lo hi none p2) v (.ref s3.heap.objs.size)) (EP X pins σ Q) X.xe {s3 with heap:=s3.heap.push {cls:=.type "slice",data:=.fields #[vl,vu,.none]}};exact tail_any (ops:=[.ref s3.heap.objs.size,v]) ht hT hg (by with_unfolding_all rfl)
def fH(xs:List V)(lo hi:Option Int):List V:=(xs.drop (HT.e9 xs.length 0 lo)).take (HT.e9 xs.length xs.length hi-HT.e9 xs.length 0 lo)
def XF(xs:List V)(lo hi:Option Int):(fH xs lo hi).length<=xs.length:=by
 unfold fH;rw[aW,aQ];lia
end
def tF(n:Nat)(i:Int):Option Nat:=if 0<=i then(if i<n then some i.toNat else none)else if-(n:Int)<=i then some (i+n).toNat else none
def lY{α:Type}(xs:List α)(i:Int):Option α:=(tF xs.length i).bind λj=>xs[j]?
def am4{n:Nat}{i:Int}{j:Nat}(h:tF n i=some j):seqIndex? i n=some j/\j<n/\-(n:Int)<=i/\i<n:=by
 unfold tF at h
 by_cases h0:0<=i
 .rw[ah h0]at h
  by_cases h1:i<n
  .rw[ah h1]at h;have e:i.toNat=j:=aH h;exact⟨by rw[seqIndex_of h0 h1,e],(),(),h1⟩
  .rw[aa h1]at h;cases h
 .rw[aa h0]at h
  by_cases h1: -(n:Int)<=i
  .rw[ah h1]at h;have e:(i+n).toNat=j:=aH h;exact⟨by rw[seqIndex_neg () h1,e],(),h1,()⟩
  .rw[aa h1]at h;cases h
def MZ{α:Type}{xs:List α}{i:Int}{v:α}(h:lY xs i=some v):∃j,seqIndex? i xs.length=some j/\xs[j]? =some v/\j<xs.length/\-(xs.length:Int)<=i/\i<xs.length:=by
 unfold lY at h;cases e:tF xs.length i with
 |none=>rw[e]at h;cases h
 |some j=>
  rw[e]at h;obtain⟨h1,h2,h3,h4⟩:=am4 e;exact⟨j,h1,h,h2,h3,h4⟩
def eV{α:Type}{xs:List α}{j:Nat}{v:α}(h:xs[j]? =some v):lY xs (j:Int)=some v:=by
 have hj:j<xs.length:=(aD.mp h).1;have e:tF xs.length (j:Int)=some j:=by
  unfold tF;rw[ah (),ah ()];simp
 unfold lY;rw[e];exact h
def L_{α:Type}(xs:List α)(v:α):lY (xs++[v]) (-1)=some v:=by
 have hl:(xs++[v]).length=xs.length+1:=by simp
 have e:tF (xs++[v]).length (-1)=some xs.length:=by
  unfold tF;rw[hl,aa (),ah ()];congr 1;lia
 unfold lY;rw[e];show(xs++[v])[xs.length]? =some v;simp
def aq5(b:Expr):Prop:=∀o i,subscripted b false o i=operate [o,i] (getItem o i)
def IK(X:Cx)(r:R2):Prop:=
 ∀(value slice:Expr) (pins:List (Addr×Obj)) (s:Shared) (σ:St) (H:Hp) (x y:V) (v u:Value) (Q:VK),Inv X pins σ H s->RelV x v->RelV y u->r x y H Q->
  subscripted slice false v u=operate [v,u] (getItem v u)->wpAny (model X.prog X.w) X.A (subscriptTail value slice v u) (EP X pins σ Q) X.xe s
def xM(X:Cx)(id:String)(r:V->List V->Hp->VK->Prop):Prop:=
 ∀(pins:List (Addr×Obj)) (s:Shared) (σ:St) (H:Hp) (x:V) (xs:List V) (v:Value) (us:List Value) (Q:VK),Inv X pins σ H s->RelV x v->Vals xs us->r x xs H Q->
  wpAny (model X.prog X.w) X.A (call (.builtin id) (v::us)) (EP X pins σ Q) X.xe s
section
variable {X:Cx}{a b:Expr}{ta tb:TE}{pos:Pos}
def fM{r:R2}(hr:IK X r)(ha:PE X a ta)(hb:PE X b tb)(hs:aq5 b):PE X (.Subscript a b pos) (qI r ta tb):=by
 intro pins s σ H Q I h;exact Subscript_ (GQ ha hb I h λv u s2 x y H2 I2 rx ry q=>hr a b pins s2 σ H2 x y v u Q I2 rx ry q (hs _ _))
inductive aL2(K:b6)(x:V)(y:V)(H:Hp)(Q:VK):Prop|m(p xs i v)(_:x= .ref p)(_:y= .int i)(_:cU K H p xs)(_:lY xs i=some v)(_:Q v H)
inductive aL1(K:b6)(x:V)(y:V)(H:Hp)(Q:VK):Prop|m(p xs i v)(_:x= .ref p)(_:y= .int i)(_:e_ K H p xs)(_:lY xs i=some v)(_:Q v H)
def fW:IK X (aL2 X.K):=by
 intro value slice pins s σ H x y v u Q I rx ry h hs;obtain⟨p,xs,i,z,rfl,rfl,hq,he,q⟩:=h;cases rx;obtain⟨t,rfl⟩:=ry;obtain⟨c7,r,pl,hz⟩:=I.list hq;obtain⟨j,h1,h2,h3,h4,h5⟩:=MZ he;obtain⟨w,ew,uQ⟩:=r.get h2;have hl:=r.length;have hn:=By;have fin:EP X pins σ Q w s:=⟨z,H,I,uQ,q⟩
 by_cases h0:0<=i
 .have hj:i.toNat=j:=by
   rw[seqIndex_of h0 h5]at h1;exact aH h1
  exact item_listR pl.isList h0 () (by rw[hj];simpa using ew) fin hs
 .have hj:(i+(c7.toArray.size:Int)).toNat=j:=by
   rw[seqIndex_neg () h4]at h1;rw[bQ,<-hl];exact aH h1
  exact subscriptTail_builtinR (x:=w) pl.isList.typeIs slot_list_getitem.lookup
   (wpAny_getItem_list_neg (Q:=λr s'=>r=w/\EP X pins σ Q r s') pl.isList () (by rw[bQ]<;>lia) () (by rw[hj];simpa using ew) ⟨rfl,fin⟩) hs
def yw:IK X (aL1 X.K):=by
 intro value slice pins s σ H x y v u Q I rx ry h hs;obtain⟨p,xs,i,z,rfl,rfl,hq,he,q⟩:=h;cases rx;obtain⟨t,rfl⟩:=ry;obtain⟨c7,r,pl,hz⟩:=I.tuple hq;obtain⟨j,h1,h2,h3,h4,h5⟩:=MZ he;obtain⟨w,ew,uQ⟩:=r.get h2;have hl:=r.length;have hn:=By;have fin:EP X pins σ Q w s:=⟨z,H,I,uQ,q⟩;exact subscriptTail_builtinR (x:=w) pl.typeIs slot_tuple_getitem.lookup
  (getItem_tuple (j:=j) (Q:=λr s'=>r=w/\EP X pins σ Q r s') pl () () (by rw[bQ,<-hl];exact h1) (by simpa using ew) ⟨rfl,fin⟩) hs
def Wt(lo hi:Option Int)(n:Nat):(sliceBounds lo hi none n).1=((HT.e9 n 0 lo:Nat):Int)/\(sliceBounds lo hi none n).2.1=((HT.e9 n n hi:Nat):Int)/\(sliceBounds lo hi none n).2.2=1:=by
 refine⟨?_,?_,rfl⟩
 .cases lo with
  |none=>simp[sliceBounds,HT.e9]
  |some i=>
   simp only[sliceBounds,HT.e9,Option.getD_none,show(1:Int)>0 by decide,if_true]
   by_cases h:i<0
   .simp only[h,if_true]<;>lia
   .simp only[h,if_false]<;>lia
 .cases hi with
  |none=>simp[sliceBounds,HT.e9]
  |some i=>
   simp only[sliceBounds,HT.e9,Option.getD_none,show(1:Int)>0 by decide,if_true]
   by_cases h:i<0
   .simp only[h,if_true]<;>lia
   .simp only[h,if_false]<;>lia
def V1(c7:List Value)(lo hi:Option Int):slicePick c7.toArray lo hi none=((c7.drop (HT.e9 c7.length 0 lo)).take (HT.e9 c7.length c7.length hi-HT.e9 c7.length 0 lo)).toArray:=by
 obtain⟨h1,h2,h3⟩:=Wt lo hi c7.toArray.size;unfold slicePick;rw[h1,h2,h3];simp only[sliceRange_one,pick_run,bQ]<;>rfl
inductive Rr(K:b6)(x:V)(lo:Option Int)(hi:Option Int)(H:Hp)(Q:VK):Prop|m(a xs)(_:x= .ref a)(_:cU K H a xs)(_:∀p,H p=none->Q (.ref p) (upd H p (.lst (fH xs lo hi))))
def fX:IF X (Rr X.K):=by
 intro pins s σ H x v vl vu lo hi sl Q I rx hs pl pu h;obtain⟨a,xs,rfl,hx,q⟩:=h;cases rx;obtain⟨c7,r,ht,hz⟩:=I.list hx;have hlen:=r.length;refine⟨"list",_,slot_list_getitem.lookup,ht.isList.typeIs,?_⟩;refine wpAny_getItem_list_slice ht.isList hs pl pu .none (by simp) ?_ (by rw[bQ]<;>lia);rw[V1,<-hlen];refine⟨.ref s.heap.objs.size,_,I.laid (t':=s.toks) (o:=.lst (fH xs lo hi)) (λb ob q=>b_ _ q) (aI _) ?_,rfl,q _ (I.hok.fresh (aI _))⟩;exact⟨aV (XF xs lo hi) hz,_,0,(r.drop (HT.e9 xs.length 0 lo)).take (HT.e9 xs.length xs.length hi-HT.e9 xs.length 0 lo),cu _ rfl⟩
def jO:V->Bool
 | .dI=>true
 | .bl _=>true
 | .int _=>true
 | .str _=>true
 |_=>false
def iW:V->V->Bool
 | .dI,.dI=>true
 | .bl a,.bl b=>a==b
 | .bl a,.int b=>(if a then 1 else 0)==b
 | .int a,.bl b=>a==(if b then 1 else 0)
 | .int a,.int b=>a==b
 | .str a,.str b=>a==b
 |_,_=>false
def aB7{A:Around}{s:Shared}{y x:V}{u v:Value}(ry:RelV y u)(rx:RelV x v)(fy:jO y=true)(fx:jO x=true):SeqAt.EqAt A s u v (iW y x):=by
 cases y with
 |dI=>
  cases ry;cases x with
  |dI=>cases rx;exact SeqAt.EqAt.same _
  |bl b=>cases rx;exact SeqAt.EqAt.none_bool b
  |int b=>obtain⟨t,rfl⟩:=rx;exact SeqAt.EqAt.none_int b t
  |str b=>obtain⟨t,rfl⟩:=rx;exact SeqAt.EqAt.none_str b t
  |_=>exact cJ (show false=true from fx) a_
 |bl a=>
  cases ry;cases x with
  |dI=>cases rx;exact SeqAt.EqAt.bool_none a
  |bl b=>cases rx;exact SeqAt.EqAt.bool_bool a b
  |int b=>obtain⟨t,rfl⟩:=rx;exact SeqAt.EqAt.bool_int a b t
  |str b=>obtain⟨t,rfl⟩:=rx;exact SeqAt.EqAt.bool_str a b t
  |_=>exact cJ (show false=true from fx) a_
 |int a=>
  obtain⟨t',rfl⟩:=ry;cases x with
  |dI=>cases rx;exact SeqAt.EqAt.int_none a t'
  |bl b=>cases rx;exact SeqAt.EqAt.int_bool a t' b
  |int b=>obtain⟨t,rfl⟩:=rx;exact SeqAt.EqAt.int_int a t' b t
  |str b=>obtain⟨t,rfl⟩:=rx;exact SeqAt.EqAt.int_str a t' b t
  |_=>exact cJ (show false=true from fx) a_
 |str a=>
  obtain⟨t',rfl⟩:=ry;cases x with
  |dI=>cases rx;exact SeqAt.EqAt.str_none a t'
  |bl b=>cases rx;exact SeqAt.EqAt.str_bool a t' b
  |int b=>obtain⟨t,rfl⟩:=rx;exact SeqAt.EqAt.str_int a t' b t
  |str b=>obtain⟨t,rfl⟩:=rx;exact SeqAt.EqAt.str_str a t' b t
  |_=>exact cJ (show false=true from fx) a_
 |_=>exact cJ (show false=true from fy) a_
def jJ(x:V)(u:Value):Bool:=match u with
 | .none=>iW .dI x
 | .bool b=>iW (.bl b) x
 | .int i _=>iW (.int i) x
 | .str z _=>iW (.str z) x
 |_=>false
def yz{x y:V}{u:Value}(r:RelV y u)(f:jO y=true):jJ x u=iW y x:=by
 cases y with
 |dI=>cases r;rfl
 |bl b=>cases r;rfl
 |int i=>obtain⟨t,rfl⟩:=r;rfl
 |str z=>obtain⟨t,rfl⟩:=r;rfl
 |_=>exact cJ (show false=true from f) a_
theorem yq{x:V}:∀{xs:List V} {us:List Value},Vals xs us->xs.all jO=true->us.any (jJ x)=xs.any λy=>iW y x
 |_,_,.nil,_=>rfl
 |y::xs,u::us,.cons r t,f=>by
  rw[bu,aE]at f;rw[List.any_cons,List.any_cons,yz r f.1,yq t f.2]
theorem uq{A:Around}{s:Shared}{x:V}{v:Value}(rx:RelV x v)(fx:jO x=true):∀{xs:List V} {us:List Value},Vals xs us->xs.all jO=true->∀u∈us,SeqAt.EqAt A s u v (jJ x u)
 |_,_,.nil,_=>λu hu=>by cases hu
 |y::xs,u::us,.cons r t,f=>λu' hu=>by
  rw[bu,aE]at f;rcases aN.mp hu with rfl|hu
  .rw[yz r f.1];exact aB7 r rx f.1 fx
  .exact uq rx fx t f.2 u' hu
def inV(x:V)(xs:List V):Bool:=xs.any λy=>iW y x
inductive rN(K:b6)(neg:Bool)(x:V)(y:V)(H:Hp)(Q:VK):Prop|m(p xs)(_:y= .ref p)(_:(cU K H p xs\/e_ K H p xs))(_:jO x=true)(_:xs.all jO=true)(_:Q (.bl (if neg then !inV x xs else inV x xs)) H)
def lz:fV X (compareOp .In) (rN X.K false):=by
 intro pins s σ H x y v u Q I rx ry h;obtain⟨p,xs,rfl,hq,fx,fs,q⟩:=h;cases ry;rcases hq with hq|hq
 .obtain⟨c7,r,pl,hz⟩:=I.list hq;refine SeqAt.in_listAt (jJ x) pl.isList (λw hw=>uq rx fx r fs w (by simpa using hw)) ⟨.bl _,H,I,rfl,?_⟩;rw[show c7.toArray.any (jJ x)=c7.any (jJ x) by simp,yq r fs];exact q
 .obtain⟨c7,r,pl,hz⟩:=I.tuple hq;refine SeqAt.in_tupleAt (jJ x) pl (λw hw=>uq rx fx r fs w (by simpa using hw)) ⟨.bl _,H,I,rfl,?_⟩;rw[show c7.toArray.any (jJ x)=c7.any (jJ x) by simp,yq r fs];exact q
def qV:fV X (compareOp .NotIn) (rN X.K true):=by
 intro pins s σ H x y v u Q I rx ry h;obtain⟨p,xs,rfl,hq,fx,fs,q⟩:=h;cases ry;rcases hq with hq|hq
 .obtain⟨c7,r,pl,hz⟩:=I.list hq;refine SeqAt.notIn_listAt (jJ x) pl.isList (λw hw=>uq rx fx r fs w (by simpa using hw)) ⟨.bl _,H,I,rfl,?_⟩;rw[show c7.toArray.any (jJ x)=c7.any (jJ x) by simp,yq r fs];exact q
 .obtain⟨c7,r,pl,hz⟩:=I.tuple hq;refine SeqAt.notIn_tupleAt (jJ x) pl (λw hw=>uq rx fx r fs w (by simpa using hw)) ⟨.bl _,H,I,rfl,?_⟩;rw[show c7.toArray.any (jJ x)=c7.any (jJ x) by simp,yq r fs];exact q
def fD:mK X (.builtin "len") (λxs H Q=>∃p ys,xs=[.ref p]/\(cU X.K H p ys\/e_ X.K H p ys)/\Q (.int ys.length) H):=by
 intro pins s σ H xs us Q I r h;obtain⟨p,ys,rfl,hq,q⟩:=h;obtain⟨u,rfl,rx⟩:=vals1 r;cases rx;have hn:=By;rcases hq with hq|hq
 .obtain⟨c7,r',pl,hz⟩:=I.list hq;have hlen:=r'.length;exact Calls.call_len_list pl.isList (by simp only[bQ]<;>lia) ⟨.int ys.length,H,I.tok _,⟨s.toks+1,by rw[bQ,hlen]⟩,q⟩
 .obtain⟨c7,r',pl,hz⟩:=I.tuple hq;have hlen:=r'.length;exact len_tuple pl (by simp only[bQ]<;>lia) ⟨.int ys.length,H,I.tok _,⟨s.toks+1,by rw[bQ,hlen]⟩,q⟩
def Ak:mK X (.builtin "len") (λxs H Q=>∃z,xs=[.str z]/\z.length<=sizeLine/\Q (.int z.length) H):=by
 intro pins s σ H xs us Q I r h;obtain⟨z,rfl,hz,q⟩:=h;obtain⟨u,rfl,t,rfl⟩:=vals1 r;have hn:=By;exact len_str () ⟨.int z.length,H,I.tok _,⟨_,rfl⟩,q⟩
def GV(K:b6)(T:String)(x:V)(H:Hp):Prop:=match x with
 | .str _=>T="str"
 | .int _=>T="int"
 | .ref p=>(T="list"/\∃xs,cU K H p xs)\/(T="tuple"/\∃o,K.lookup p=some o/\o.cls= .type "tuple"/\o.dict=none)\/
   (T="dict"/\((∃d_,H p=some (.dK d_))\/∃d_,H p=some (.dT d_)))\/(T="set"/\∃S n,H p=some (.set S n))
 |_=>False
def M6{pins:List (Addr×Obj)}{σ:St}{H:Hp}{s:Shared}{T:String}{x:V}{v:Value}(I:Inv X pins σ H s)(r:RelV x v)(ty:GV X.K T x H):
  s.TypeIs v T/\∀a,v= .ref a->∃ob,s.heap.get? a=some ob/\ob.dict=none:=by
 cases x with
 |str z=>
  obtain⟨t,rfl⟩:=r;cases(show T="str" from ty);exact⟨typeIs_str s z t,λ_ e=>nomatch e⟩
 |int i=>
  obtain⟨t,rfl⟩:=r;cases(show T="int" from ty);exact⟨typeIs_int s i t,λ_ e=>nomatch e⟩
 |ref p=>
  cases r;rcases ty with⟨rfl,xs,hq⟩|⟨rfl,o,hk,hc,hd⟩|⟨rfl,hk⟩|⟨rfl,S,n,hk⟩
  .obtain⟨c7,_,pl,_⟩:=I.list hq;refine⟨pl.isList.typeIs,λa e=>?_⟩;cases e;obtain⟨o,n,e,c,hd,_⟩:=pl;exact⟨o,e,hd⟩
  .refine⟨⟨o,I.kZ p o hk,hc⟩,λa e=>?_⟩;cases e;exact⟨o,I.kZ _ o hk,hd⟩
  .have z:∃o,s.heap.get? p=some o/\o.ExactDict:=by
    rcases hk with⟨d_,hk⟩|⟨d_,hk⟩
    .obtain⟨_,_,_,_,o,_,_,e,ex,_⟩:=I.hok p _ hk;exact⟨o,e,ex⟩
    .obtain⟨_,_,_,_,o,_,_,e,ex,_⟩:=I.hok p _ hk;exact⟨o,e,ex⟩
   obtain⟨o,e,ex⟩:=z;refine⟨⟨o,e,ex.1⟩,λa e2=>?_⟩;cases e2;exact⟨o,e,ex.2.1⟩
  .obtain⟨o,_,_,_,e,ex,_⟩:=I.hok p _ hk;refine⟨⟨o,e,ex.1⟩,λa e2=>?_⟩;cases e2;exact⟨o,e,ex.2.1⟩
 |_=>exact False.elim ty
def aK2(K:b6)(T:String)(r:V->List V->Hp->VK->Prop)(to:TE):TE:=λσ H Q=>to σ H λx H1=>GV K T x H1/\r x [] H1 Q
def tBM(K:b6)(T:String)(r:V->List V->Hp->VK->Prop)(to:TE)(t:TA):TE:=λσ H Q=>to σ H λx H1=>GV K T x H1/\t σ H1 λxs H2=>r x xs H2 Q
variable {o e:Expr}{es:List Expr}{to:TE}{t:TA}{name:Str}{apos lN:Pos}{T id:String}{r:V->List V->Hp->VK->Prop}
def au9(pa:PlainAttrs T)(slot:Slot T name id)(tG:typeOf (.builtin id)=pure (.type "method_descriptor"))(hm:xM X id r)(ho:PE X o to)
  (oN:attributeBase o name X.env (eval o X.env)=eval o X.env:=by rfl)(yH:(apos.endLine==lN.line)=true:=by rfl):PE X (.Call (.Attribute o name apos) [] [] lN) (aK2 X.K T r to):=by
 intro pins s σ H Q I h;refine wpAny_Call_method0_late oN yH (dY (ho pins s σ H _ I h) λv s1 ⟨x,H1,I1,r1,ty,q1⟩=>?_);obtain⟨h1,h2⟩:=M6 I1 r1 ty;exact⟨T,id,pa,slot,tG,h1,h2,Calls.callWith_builtin rfl (PySem.evalArgs_none (hm pins s1 σ H1 x [] v [] Q I1 r1 .nil q1))⟩
def gk(pa:PlainAttrs T)(slot:Slot T name id)(tG:typeOf (.builtin id)=pure (.type "method_descriptor"))(hm:xM X id r)(ho:PE X o to)(ha:PA X (e::es) t)
  (oN:attributeBase o name X.env (eval o X.env)=eval o X.env:=by rfl)
  (aP0:((backTo lN (starEach (e::es) X.env)).all (λx=>!x.1)&&(backToKw lN (keywordEach [] X.env)).all (λx=>x.1.isSome)
   &&decide ((e::es).length+([]:List Keyword).length+(if([]:List Keyword).isEmpty then 0 else 1)<30))=true:=by rfl)
  (yH:(apos.endLine==lN.line)=true:=by rfl)(hs:starEach (e::es) X.env=(false,eval e X.env)::starEach es X.env:=by rfl)(aB6:(backTo lN (starEach es X.env)).any (·.1)=false:=by rfl):
  PE X (.Call (.Attribute o name apos) (e::es) [] lN) (tBM X.K T r to t):=by
 intro pins s σ H Q I h;refine wpAny_Call_method_late oN aP0 yH rfl (dY (ho pins s σ H _ I h) λv s1 ⟨x,H1,I1,r1,ty,q1⟩=>?_);obtain⟨h1,h2⟩:=M6 I1 r1 ty;refine⟨T,id,pa,slot,tG,h1,h2,?_⟩;have hA:=ha lN pins s1 σ H1 _ I1 q1;rw[hs]at hA ⊢;refine Calls.callWith_builtin (by show(false||(backTo lN (starEach es X.env)).any (·.1))=false;rw[aB6]<;>rfl) (Calls.evalArgs_plain ?_);exact dY hA λus s2 ⟨vs,H2,I2,r2,q2⟩=>hm pins s2 σ H2 x vs v us Q I2 r1 r2 q2
end
def IJ(X:Cx)(id:String)(r:V->List V->Hp->VK->Prop):Prop:=
 ∀(pins:List (Addr×Obj)) (s:Shared) (σ:St) (H:Hp) (x:V) (xs:List V) (v:Value) (us:List Value) (Q:VK),Inv X pins σ H s->RelV x v->Vals xs us->r x xs H Q->
  wpAny (model X.prog X.w) X.A (call (.builtin id) (v::us)) (EP X pins σ Q) X.xe s
def Vals.one:∀{x:V} {us:List Value},Vals [x] us->∃u,us=[u]/\RelV x u
 |_,_,.cons r .nil=>⟨_,rfl,r⟩
def Vals.zero:∀{us:List Value},Vals [] us->us=[]
 |_,.nil=>rfl
theorem Vals.dropLast{xs:List V}{us:List Value}(h:Vals xs us):Vals xs.dropLast us.dropLast:=by
 induction h with
 |nil=>exact .nil
 |cons r t ih=>
  cases t with
  |nil=>exact .nil
  |cons q t'=>exact .cons r ih
def Yl{α:Type}(l:List α):l.eraseIdx (l.length-1)=l.dropLast:=by
 induction l with
 |nil=>rfl
 |cons a r ih=>
  cases r with
  |nil=>rfl
  |cons b r=>
   have e:(a::b::r).length-1=((b::r).length-1)+1:=by
    have h1:(a::b::r).length=r.length+2:=rfl;have h2:(b::r).length=r.length+1:=rfl;lia
   rw[e,List.eraseIdx_cons_succ,ih]
   all_goals rfl
section
variable {X:Cx}{pins:List (Addr×Obj)}{σ:St}{H:Hp}{s:Shared}{l b:Addr}{xs ys zs:List V}
def Inv.Gu{c7 its':List Value}{n:Nat}{f:Array Value->Array Value}{t':Nat}(I:Inv X pins σ H s)(hH:H l=some (.lst xs))
  (e:s.heap.get? l=some {cls:=.type "list",data:=.seq c7.toArray n})(hf:f c7.toArray=its'.toArray)(hv:Vals ys its')(hz:ys.length<=sizeLine):
  Inv X pins σ (upd H l (.lst ys)) {s with heap:=s.heap.update l (Obj.mapSeq f),toks:=t'}:=by
 have q:=PySem.IsL.update e f;rw[hf]at q;refine I.write (x:=l) (e:=l) (by rw[hH];exact trivial) (.inl rfl) (λb' u hb hu=>(Heap.get?_update_other s.heap (Obj.mapSeq f) (cH hb)).trans hu) ⟨_,q⟩ ?_;exact⟨hz,its',_,hv,q⟩
def Inv.aM3{c7:List Value}{t':Nat}(I:Inv X pins σ H s)(hv:Vals ys c7)(hz:ys.length<=sizeLine):
  Inv X pins σ (upd H s.heap.objs.size (.lst ys)) {s with heap:=s.heap.push {cls:=.type "list",data:=.seq c7.toArray},toks:=t'}:=
 I.laid (λ_ _ q=>b_ _ q) (aI _) ⟨hz,c7,0,hv,cu _ rfl⟩
theorem Inv.fresh(I:Inv X pins σ H s):H s.heap.objs.size=none:=I.hok.fresh (aI _)
def Inv.wJ(I:Inv X pins σ H s)(hH:H l=some (.lst xs)):xs.length<=sizeLine/\∃(c7:List Value) (n:Nat),Vals xs c7/\xs.length=c7.length/\s.heap.get? l=some {cls:=.type "list",data:=.seq c7.toArray n}:=by
 obtain⟨z,c7,n,r,e⟩:=I.hok l _ hH;exact⟨z,c7,n,r,r.length,e⟩
def ac6{n:Nat}(h:n<=sizeLine):Builtin.List.listTooLong n=false:=by
 unfold Builtin.List.listTooLong;exact ao ()
end
section
variable {X:Cx}
inductive ES(x:V)(vs:List V)(H:Hp)(Q:VK):Prop|m(l xs y)(_:x= .ref l)(_:vs=[y])(_:H l=some (.lst xs))(_:xs.length<sizeLine)(_:Q .dI (upd H l (.lst (xs++[y]))))
def mX:IJ X "list.append" ES:=by
 intro pins s σ H x vs v us Q I rx rv h;obtain⟨l,xs,y,rfl,rfl,hH,hz,q⟩:=h;cases rx;obtain⟨u,rfl,ru⟩:=rv.one;obtain⟨z,c7,n,r,hl,e⟩:=I.wJ hH;refine call_meets F.slot_list_append ⟨_,e,rfl⟩ F.entry_list_append (F.args_list_append_2 _ _) (PySem.list_append l c7.toArray n u (by rw[bQ];lia)) ⟨e,?_⟩;refine⟨.dI,_,I.Gu (its':=c7++[u]) hH e (by simp) (r.append (.cons ru .nil)) ?_,rfl,q⟩;rw[aC,List.length_singleton];lia
inductive Mv(x:V)(vs:List V)(H:Hp)(Q:VK):Prop|m(l b xs zs)(_:x= .ref l)(_:vs=[.ref b])(_:H l=some (.lst xs))(_:H b=some (.lst zs))(_:xs.length+zs.length<=sizeLine)(_:Q .dI (upd H l (.lst (xs++zs))))
def qY:IJ X "list.extend" Mv:=by
 intro pins s σ H x vs v us Q I rx rv h;obtain⟨l,b,xs,zs,rfl,rfl,hH,hB,hz,q⟩:=h;cases rx;obtain⟨u,rfl,ru⟩:=rv.one;cases ru;obtain⟨z,c7,n,r,hl,e⟩:=I.wJ hH;obtain⟨z2,o7,n2,r2,pP,e2⟩:=I.wJ hB;have hsz:c7.toArray.size+o7.toArray.size<=sizeLine:=by rw[bQ,bQ];lia
 have aH6:¬(!c7.toArray.isEmpty&&Builtin.List.listTooLong (c7.toArray.size+o7.toArray.size))=true:=by
  rw[ac6 hsz,Bool.and_false];exact a_
 refine call_meets F.slot_list_extend ⟨_,e,rfl⟩ F.entry_list_extend (F.args_list_extend_2 _ _)
  (AutoSeq1.list_extend_list_list_0 l c7.toArray n b o7.toArray n2 aH6 (by rw[bQ];lia) ()) ⟨e,e2,?_⟩
 refine⟨.dI,_,I.Gu (its':=c7++o7) hH e (by simp) (r.append r2) ?_,rfl,q⟩;rw[aC];lia
inductive aK9(x:V)(vs:List V)(H:Hp)(Q:VK):Prop|m(l xs y)(_:x= .ref l)(_:vs=[])(_:H l=some (.lst xs))(_:xs[xs.length-1]? =some y)(_:Q y (upd H l (.lst xs.dropLast)))
def aA3:IJ X "list.pop" aK9:=by
 intro pins s σ H x vs v us Q I rx rv h;obtain⟨l,xs,y,rfl,rfl,hH,hy,q⟩:=h;cases rx;have hus:=rv.zero;subst hus;obtain⟨z,c7,n,r,hl,e⟩:=I.wJ hH;obtain⟨u,hu,ru⟩:=r.get hy;have zB:c7.toArray[c7.toArray.size-1]? =some u:=by
  show c7.toArray[c7.length-1]? =some u;rw[<-Array.getElem?_toList,<-hl];exact hu
 refine call_meets F.slot_list_pop ⟨_,e,rfl⟩ F.entry_list_pop (F.args_list_pop_1 _) (MeetsSeq.list_pop_last l c7.toArray n u zB (by rw[bQ];lia)) ⟨e,?_⟩;refine⟨y,_,I.Gu (its':=c7.dropLast) hH e ?_ r.dropLast ?_,ru,q⟩
 .show c7.toArray.eraseIdxIfInBounds (c7.toArray.size-1)=c7.dropLast.toArray;rw[bQ,List.eraseIdxIfInBounds_toArray,Yl]
 .rw[List.length_dropLast];lia
inductive Gr(x:V)(y:V)(H:Hp)(Q:VK):Prop|m(l b xs zs)(_:x= .ref l)(_:y= .ref b)(_:H l=some (.lst xs))(_:H b=some (.lst zs))(_:xs.length+zs.length<=sizeLine)(_:∀p,H p=none->Q (.ref p) (upd H p (.lst (xs++zs))))
def ni:fV X (binaryOp .Add) Gr:=by
 intro pins s σ H x y v u Q I rx ry h;obtain⟨l,b,xs,zs,rfl,rfl,hH,hB,hz,q⟩:=h;cases rx;cases ry;obtain⟨z,c7,n,r,hl,e⟩:=I.wJ hH;obtain⟨z2,o7,n2,r2,pP,e2⟩:=I.wJ hB;refine PySem.P.add_list e e2 ?_ (by rw[bQ,bQ];lia);have ea:c7.toArray++o7.toArray=(c7++o7).toArray:=by simp
 rw[ea];exact⟨.ref _,_,I.aM3 (t':=s.toks) (r.append r2) (by rw[aC];lia),rfl,q _ I.fresh⟩
end
theorem Vals.ints:∀{ns:List Int} {us:List Value},Vals (ns.map V.int) us->IntsAre us ns
 |[],us,h=>by
  rw[List.map_nil]at h;cases h;exact IntsAre.nil
 |n::ns,us,h=>by
  rw[aX]at h;cases h with
  |cons r t=>
   obtain⟨k,rfl⟩:=r;exact IntsAre.cons n k (Vals.ints t)
theorem Vals.IB:∀{bs:List Bool} {us:List Value},Vals (bs.map V.bl) us->us=bs.map Value.bool
 |[],us,h=>by
  rw[List.map_nil]at h;cases h;rfl
 |b::bs,us,h=>by
  rw[aX]at h;cases h with
  |cons r t=>
   cases r;rw[Vals.IB t,aX]
def Vals.BW{a:Addr}{us:List Value}(r:Vals [V.ref a] us):us=[Value.ref a]:=by
 cases r with
 |cons r t=>
  cases t;cases r;rfl
section
variable {prog:Program}{w:World}{A:Around}{E:Value->Shared->Prop}{s:Shared}{l:Addr}{c7:List Value}{ns:List Int}{Q:Value->Shared->Prop}
def ag5(hh:A.handled=none)(hl:s.heap.IsList l c7.toArray)(hi:IntsAre c7 ns)
  (h:∀h' tk t',(∀b o,s.heap.get? b=some o->h'.get? b=some o)->Q (.int ns.sum t') {s with heap:=h',toks:=tk}):wpAny (model prog w) A (call (.builtin "sum") [.ref l]) Q E s:=by
 obtain⟨xs,e⟩:=hi.allInts.items;have hn:numsOf (intItems xs).toList=ns:=by rw[<-e];exact hi.numsOf
 rw[nums_intItems]at hn;rw[e]at hl;refine PySem.sum_intListG hh hl λh' tk t' hk=>?_;have:=h h' tk t' hk;rw[preSum_eq,bq (by simp),hn];exact this
def al4(hh:A.handled=none)(hl:s.heap.IsList l c7.toArray)(hi:IntsAre c7 ns)(dR:0<ns.length)
  (h:∀h' tk M t',(∀b o,s.heap.get? b=some o->h'.get? b=some o)->M∈ns->(∀a,a∈ns->a<=M)->Q (.int M t') {s with heap:=h',toks:=tk}):wpAny (model prog w) A (call (.builtin "max") [.ref l]) Q E s:=by
 obtain⟨xs,e⟩:=hi.allInts.items;have hn:numsOf (intItems xs).toList=ns:=by rw[<-e];exact hi.numsOf
 rw[nums_intItems]at hn;subst hn;rw[e]at hl;have hsz:0<xs.size:=by simpa using dR
 refine PySem.max_intList hh hl hsz λv h' tk hv hk=>?_;obtain⟨t,rfl⟩:=intItems_at hv;obtain⟨h1,h2⟩:=argBest_gt (numAt xs) (xs.size-1);refine h h' tk _ t hk ?_ λa ha=>?_
 .rw[numAt_eq];exact PySem.getD_mem (by rw[az,bR];omega)
 .obtain⟨j,hj,rfl⟩:=mem_getD ha;rw[az,bR]at hj;rw[<-numAt_eq];exact h2 j (by omega)
end
section
variable {X:Cx}
inductive Rp(K:b6)(vs:List V)(H:Hp)(Q:VK):Prop|m(a:Addr)(ns:List Int)(_:vs=[V.ref a])(_:cU K H a (ns.map V.int))(_:Q (.int ns.sum) H)
inductive aL0(K:b6)(vs:List V)(H:Hp)(Q:VK):Prop|m(a:Addr)(ns:List Int)(_:vs=[V.ref a])(_:cU K H a (ns.map V.int))(_:0<ns.length)(_:∀m,m∈ns->(∀y,y∈ns->y<=m)->Q (.int m) H)
def Of(hc:X.calm=true):mK X (.builtin "sum") (Rp X.K):=by
 intro pins s σ H vs us Q I r h;obtain⟨a,ns,rfl,hs,q⟩:=h;obtain⟨c7,rv,hl,_⟩:=I.list hs;rw[Vals.BW r];exact ag5 (I.ok.hd hc) hl.isList rv.ints λh' tk t' hk=>⟨.int _,H,I.kept hk,⟨_,rfl⟩,q⟩
def Og(hc:X.calm=true):mK X (.builtin "max") (aL0 X.K):=by
 intro pins s σ H vs us Q I r h;obtain⟨a,ns,rfl,hs,dR,q⟩:=h;obtain⟨c7,rv,hl,_⟩:=I.list hs;rw[Vals.BW r];exact al4 (I.ok.hd hc) hl.isList rv.ints dR λh' tk m t' hk h1 h2=>⟨.int _,H,I.kept hk,⟨_,rfl⟩,q m h1 h2⟩
end
section
variable {X:Cx}
inductive au0(K:b6)(x:V)(xs:List V)(H:Hp)(Q:VK):Prop|m(a:Addr)(ys:List V)(y:V)(j:Nat)(z:V)(_:x=V.ref a)(_:xs=[y])(_:cU K H a ys)(_:jO y=true)(_:ys.all jO=true)(_:ys[j]? =some z)(_:iW z y=true)(_:(∀(m:Nat) (z':V),m<j->ys[m]? =some z'->iW z' y=false))(_:Q (.int (j:Nat)) H)
def MK{ys:List V}(f:ys.all jO=true){j:Nat}{z:V}(h:ys[j]? =some z):jO z=true:=bg.mp f z (bx h)
def yc:xM X "list.index" (au0 X.K):=by
 intro pins s σ H x xs v us Q I rx Hf h;obtain⟨a,ys,y,j,z,rfl,rfl,hs,fy,xD,hz,hzj,k8,q⟩:=h;cases rx;cases Hf with
 |cons ry rt=>
  rename_i uy ut;cases rt;obtain⟨c7,rv,⟨⟨cls,dd,data,sl⟩,n,ho,hc,HY,hd⟩,hlen⟩:=I.list hs;simp only at hc hd;subst hc hd;obtain⟨u,hu,ru⟩:=rv.get hz;obtain⟨n6,hje⟩:=aD.mp hu;have hvl:=rv.length;have hj:j<c7.toArray.size:=by simpa using n6
  have hsl:=sizeLine_eq;refine call_meets PySem.F.slot_list_index ⟨_,ho,rfl⟩ PySem.F.entry_list_index (PySem.F.args_list_index_2 _ _)
   (SeqAt.list_indexAt a c7.toArray n dd sl uy (jJ y) j hj () ?_ ?_) ⟨ho,λu' Hy=>uq ry fy rv xD u' (by simpa using Hy),?_⟩
  .have e1:c7.toArray[j]=u:=by simpa using hje
   rw[e1,yz ru (MK xD hz)];exact hzj
  .intro m hm hmj;have hml:m<c7.length:=by simpa using hm
   have hmy:m<ys.length:=();have zB:ys[m]? =some ys[m]:=br hmy;obtain⟨u2,hu2,ru2⟩:=rv.get zB;obtain⟨_,hme⟩:=aD.mp hu2;have e1:c7.toArray[m]=u2:=by simpa using hme
   rw[e1,yz ru2 (MK xD zB)];exact k8 m _ hmj zB
  .exact⟨.int (j:Nat),H,I.tok _,⟨_,rfl⟩,q⟩
end
def LG{prog:Program}{w:World}{A:Around}{E:Value->Shared->Prop}{s:Shared}{l:Addr}{items:Array Value}{Q:Value->Shared->Prop}(hl:s.heap.IsList l items)
  (h:∀s₂:Shared,s₂={s with heap:=s.heap.push {cls:=.type "list_iterator",data:=.fields #[.ref l,.int 0 0]}}->
   (s₂.heap.IsListIter s.heap.objs.size l 0/\s₂.heap.IsList l items)->l≠s.heap.objs.size->Q (.ref s.heap.objs.size) s₂):wpAny (model prog w) A (pyIter (.ref l)) Q E s:=by
 have eF:l<s.heap.objs.size:=by obtain⟨_,e,_⟩:=hl;exact cj e
 exact wpAny_pyIter_list hl (h _ rfl ⟨⟨_,cu _ rfl,rfl,rfl⟩,hl.push _⟩ (b5 eF))
def JN{prog:Program}{w:World}{A:Around}{bs:List Bool}{c7:List Value}(e:c7=bs.map Value.bool):
  TruthOf prog w A (λi v=>c7.toArray[i]? =some v) (λi=>bs.getD i false):=λi v s Q E hv hq=>by
 have Cr:c7[i]? =some v:=by simpa using hv
 rw[e,aR]at Cr;obtain⟨b,hb,rfl⟩:=aG.mp Cr;have hg:bs.getD i false=b:=by rw[List.getD_eq_getElem?_getD,hb]<;>rfl
 have nX:Q (bs.getD i false) s:=hq;rw[hg]at nX;exact wpAny_truthy_bool nX
theorem any_range:∀bs:List Bool,(List.range bs.length).any (λi=>bs.getD i false)=bs.any id
 |[]=>rfl
 |b::bs=>by
  rw[aK,List.range_succ_eq_map,List.any_cons,List.any_map,List.any_cons,<-any_range bs]
  all_goals rfl
theorem all_range:∀bs:List Bool,(List.range bs.length).all (λi=>bs.getD i false)=bs.all id
 |[]=>rfl
 |b::bs=>by
  rw[aK,List.range_succ_eq_map,bu,List.all_map,bu,<-all_range bs]
  all_goals rfl
section
variable {X:Cx}
inductive aL5(K:b6)(vs:List V)(H:Hp)(Q:VK):Prop|m(a:Addr)(bs:List Bool)(_:vs=[V.ref a])(_:cU K H a (bs.map V.bl))(_:Q (.bl (bs.any id)) H)
inductive aL6(K:b6)(vs:List V)(H:Hp)(Q:VK):Prop|m(a:Addr)(bs:List Bool)(_:vs=[V.ref a])(_:cU K H a (bs.map V.bl))(_:Q (.bl (bs.all id)) H)
def Oh(hc:X.calm=true):mK X (.builtin "any") (aL5 X.K):=by
 intro pins s σ H vs us Q I r h;obtain⟨a,bs,rfl,hs,q⟩:=h;obtain⟨c7,rv,hl,_⟩:=I.list hs;rw[Vals.BW r];have hb:=rv.IB;refine call_any_walk (LG hl.isList λs₂ e2 st dR=>?_);subst e2;refine⟨_,_,_,_,_,_,_,rfl,Walks.list (A:=X.A.in1) (I.ok.hd hc) _ a dR c7.toArray,st,JN hb,λh' tk hk=>?_⟩;refine⟨.bl _,H,I.kept λb o eo=>hk b o (λhmem=>?_) (b_ _ eo),?_,q⟩
 .rcases aN.mp hmem with e1|hmem
  .exact cJ (e1▸cj eo) (Nat.lt_irrefl _)
  .cases hmem
 .show Value.bool _=Value.bool _;rw[<-any_range,hb,bQ,az]
def FQ(hc:X.calm=true):mK X (.builtin "all") (aL6 X.K):=by
 intro pins s σ H vs us Q I r h;obtain⟨a,bs,rfl,hs,q⟩:=h;obtain⟨c7,rv,hl,_⟩:=I.list hs;rw[Vals.BW r];have hb:=rv.IB;refine call_all_walk (LG hl.isList λs₂ e2 st dR=>?_);subst e2;refine⟨_,_,_,_,_,_,_,rfl,Walks.list (A:=X.A.in1) (I.ok.hd hc) _ a dR c7.toArray,st,JN hb,λh' tk hk=>?_⟩;refine⟨.bl _,H,I.kept λb o eo=>hk b o (λhmem=>?_) (b_ _ eo),?_,q⟩
 .rcases aN.mp hmem with e1|hmem
  .exact cJ (e1▸cj eo) (Nat.lt_irrefl _)
  .cases hmem
 .show Value.bool _=Value.bool _;rw[<-all_range,hb,bQ,az]
end
mutual
inductive Dp(K:b6)(H:Hp):V->PyData->Prop
 |dI:Dp K H .dI .none
 |bl (b:Bool):Dp K H (.bl b) (.bool b)
 |int (i:Int):Dp K H (.int i) (.int i)
 |str (x:Str):Dp K H (.str x) (.str x)
 |lst {a:Addr} {xs:List V} {ds:List PyData}:cU K H a xs->sQ K H xs ds->Dp K H (.ref a) (.list ds)
 |tup {a:Addr} {xs:List V} {ds:List PyData}:e_ K H a xs->sQ K H xs ds->Dp K H (.ref a) (.tuple ds)
inductive sQ(K:b6)(H:Hp):List V->List PyData->Prop
 |nil:sQ K H [] []
 |cons {v:V} {vs:List V} {d:PyData} {ds:List PyData}:Dp K H v d->sQ K H vs ds->sQ K H (v::vs) (d::ds)
end
section
variable {X:Cx}{pins:List (Addr×Obj)}{σ:St}{H:Hp}{s:Shared}
mutual
theorem Dp.reads(I:Inv X pins σ H s):∀(d:PyData) (v:V) (u:Value),Dp X.K H v d->RelV v u->∃as,Reads s.heap u d as
 | .none,_,_,h,r=>by
  cases h;cases r;exact⟨_,Reads.none⟩
 | .bool b,_,_,h,r=>by
  cases h;cases r;exact⟨_,Reads.bool b⟩
 | .int i,_,_,h,r=>by
  cases h;obtain⟨t,rfl⟩:=r;exact⟨_,Reads.int i t⟩
 | .str x,_,_,h,r=>by
  cases h;obtain⟨t,rfl⟩:=r;exact⟨_,Reads.str x t⟩
 | .list ds,_,_,h,r=>by
  cases h with
  |lst hs ha=>
   cases r;obtain⟨c7,rv,⟨o,n,ho,hc,_,hd⟩,_⟩:=I.list hs;obtain⟨as,hr⟩:=Dp.readsAll I ds _ c7 ha rv;exact⟨_,Reads.list ho hc hd hr⟩
 | .tuple ds,_,_,h,r=>by
  cases h with
  |tup hs ha=>
   cases r;obtain⟨c7,rv,⟨o,ho,hc,n,hd⟩,_⟩:=I.tuple hs;obtain⟨as,hr⟩:=Dp.readsAll I ds _ c7 ha rv;exact⟨_,Reads.tuple ho hc hd hr⟩
 | .dict _,_,_,h,_=>by cases h
theorem Dp.readsAll(I:Inv X pins σ H s):∀(ds:List PyData) (vs:List V) (us:List Value),sQ X.K H vs ds->Vals vs us->∃as,ReadsAll s.heap us ds as
 |[],_,_,h,r=>by
  cases h;cases r;exact⟨_,ReadsAll.nil⟩
 |d::ds,_,_,h,r=>by
  cases h with
  |cons h1 h2=>
   cases r with
   |cons r1 r2=>
    obtain⟨as,q1⟩:=Dp.reads I d _ _ h1 r1;obtain⟨bs,q2⟩:=Dp.readsAll I ds _ _ h2 r2;exact⟨_,ReadsAll.cons q1 q2⟩
end
end
section
variable {X:Cx}
inductive aL4(K:b6)(x:V)(y:V)(H:Hp)(Q:VK):Prop|m(d e)(_:Dp K H x d)(_:Dp K H y e)(_:SeqAt.shaped d=true)(_:SeqAt.shaped e=true)(_:Q (.bl (PyData.eqv d e)) H)
inductive Rt(K:b6)(x:V)(y:V)(H:Hp)(Q:VK):Prop|m(d e)(_:Dp K H x d)(_:Dp K H y e)(_:SeqAt.shaped d=true)(_:SeqAt.shaped e=true)(_:Q (.bl (!PyData.eqv d e)) H)
def ql(hu:X.A.units+64<cLine):fV X (compareOp .Eq) (aL4 X.K):=by
 intro pins s σ H x y v u Q I rx ry h;obtain⟨d,e,hd,he,sd,se,q⟩:=h;obtain⟨as,r1⟩:=Dp.reads I d x v hd rx;obtain⟨bs,r2⟩:=Dp.reads I e y u he ry;exact SeqAt.compareEq_shaped r1 r2 sd se hu ⟨.bl _,H,I,rfl,q⟩
def Fy(hu:X.A.units+64<cLine):fV X (compareOp .NotEq) (Rt X.K):=by
 intro pins s σ H x y v u Q I rx ry h;obtain⟨d,e,hd,he,sd,se,q⟩:=h;obtain⟨as,r1⟩:=Dp.reads I d x v hd rx;obtain⟨bs,r2⟩:=Dp.reads I e y u he ry;exact SeqAt.compareNe_shaped r1 r2 sd se hu ⟨.bl _,H,I,rfl,q⟩
end
abbrev Oo(h:Heap)(c:Addr)(v:Option Value):Prop:=h.IsCell c v
noncomputable def aK8(scope sc:Scope):Scope:=
 {scope with names:=scope.names.map λ(n,k)=>if(k== .free&&sc.kind== .function&&sc.names.lookup n==some .cell)then(n,.cell)else(n,k)}
def iB(cells:List (Str×Addr)):List (Str×NameKind)->List (Str×Addr)->List (Str×Addr)
 |[],acc=>acc
 |(n,k)::r,acc=>if k== .free then iB cells r ((n,(cells.lookup n).getD 0)::acc)else iB cells r acc
theorem JH(env:Env)(f:Str×NameKind->List (Str×Addr)->Sem (ForInStep (List (Str×Addr))))
  (hf:∀n k c,f (n,k) c=if k== .free then(do let a <-cellOf env n;pure (.yield ((n,a)::c)))else pure (.yield c)):
  ∀(names:List (Str×NameKind)) (acc:List (Str×Addr)),(∀y∈names,y.2= .free->∃c,env.cells.lookup y.1=some c)->forIn names acc f=pure (iB env.cells names acc)
 |[],acc,_=>by rw[List.forIn_nil];rfl
 |(n,k)::r,acc,h=>by
  rw[List.forIn_cons,hf];have ih:=λacc=>JH env f hf r acc λy hy=>h y (aA _ hy);unfold iB
  by_cases hk:(k==NameKind.free)=true
  .rw[ah hk,ah hk];obtain⟨c,hc⟩:=h (n,k) aB (by simpa using hk);have e:cellOf env n=pure c:=by unfold cellOf;rw[hc]
   rw[e];have e2:(env.cells.lookup n).getD 0=c:=by rw[hc];rfl
   rw[e2];exact ih _
  .rw[aa hk,aa hk];exact ih _
def Ko{scope:Scope}{env:Env}(h:∀y∈scope.names,y.2= .free->∃c,env.cells.lookup y.1=some c):closureFor scope env=pure (iB env.cells scope.names []):=by
 simp only[closureFor];rw[JH env _ (λn k c=>rfl) scope.names [] h];rfl
theorem mem_lookup{α:Type}:∀{l:List (Str×α)} {n:Str} {c:α},(n,c)∈l->∃c',l.lookup n=some c'
 |(k,v)::r,n,c,h=>by
  rw[List.lookup_cons];cases hb:n==k with
  |true=>exact⟨_,rfl⟩
  |false=>
   rcases aN.mp h with e|h
   .cases e;simp at hb
   .exact mem_lookup h
theorem Ar{cells:List (Str×Addr)}:∀{names:List (Str×NameKind)} {acc:List (Str×Addr)} {n:Str} {c:Addr},(n,c)∈iB cells names acc->(n,c)∈acc\/((n,.free)∈names/\c=(cells.lookup n).getD 0)
 |[],_,_,_,h=>.inl h
 |(m,k)::r,acc,n,c,h=>by
  unfold iB at h;split at h
  .rename_i hk;have hk:k= .free:=by simpa using hk
   rcases Ar h with h|⟨h1,h2⟩
   .rcases aN.mp h with e|h
    .cases e;exact .inr ⟨hk▸aB,rfl⟩
    .exact .inl h
   .exact .inr ⟨aA _ h1,h2⟩
  .rcases Ar h with h|⟨h1,h2⟩
   .exact .inl h
   .exact .inr ⟨aA _ h1,h2⟩
theorem DR{cells:List (Str×Addr)}:∀{names:List (Str×NameKind)} {acc:List (Str×Addr)} {p:Str×Addr},p∈acc->p∈iB cells names acc
 |[],_,_,h=>h
 |(m,k)::r,acc,p,h=>by
  unfold iB;split
  .exact DR (aA _ h)
  .exact DR h
theorem DQ{cells:List (Str×Addr)}:∀{names:List (Str×NameKind)} {acc:List (Str×Addr)} {n:Str},(n,.free)∈names->(n,(cells.lookup n).getD 0)∈iB cells names acc
 |(m,k)::r,acc,n,h=>by
  unfold iB;rcases aN.mp h with e|h
  .cases e;exact DR aB
  .split
   .exact DQ h
   .exact DQ h
theorem x8:∀{names:List (Str×NameKind)} {h:Heap} {acc:List (Str×Addr)} {x:Str} {c:Addr},(x,c)∈cellsFrom h.objs.size names acc->
  (x,c)∈acc\/((x,.cell)∈names/\h.objs.size<=c/\Oo (pushCells h names) c none)
 |[],_,_,_,_,h=>.inl h
 |(n,k)::r,h,acc,x,c,hm=>by
  unfold cellsFrom at hm;unfold pushCells;split at hm
  .rename_i hk;rw[ah hk];have hk:k= .cell:=by simpa using hk
   rw[<-Heap.size_push h {cls:=.type "cell",data:=.cell none}]at hm;rcases x8 hm with hm|⟨h1,h2,h3⟩
   .rcases aN.mp hm with e|hm
    .cases e;exact .inr ⟨hk▸aB,aI _,_,pushCells_keeps r _ _ _ (cu _ rfl),rfl⟩
    .exact .inl hm
   .rw[Heap.size_push]at h2;exact .inr ⟨aA _ h1,Nat.le_of_succ_le h2,h3⟩
  .rename_i hk;rw[aa hk];rcases x8 hm with hm|⟨h1,h2,h3⟩
   .exact .inl hm
   .exact .inr ⟨aA _ h1,h2,h3⟩
theorem AJ:∀{names:List (Str×NameKind)} {n:Nat} {acc:List (Str×Addr)} {p:Str×Addr},p∈acc->p∈cellsFrom n names acc
 |[],_,_,_,h=>h
 |(m,k)::r,n,acc,p,h=>by
  unfold cellsFrom;split
  .exact AJ (aA _ h)
  .exact AJ h
theorem Em:∀{names:List (Str×NameKind)} {n:Nat} {acc:List (Str×Addr)} {x:Str},(x,.cell)∈names->∃c,(x,c)∈cellsFrom n names acc
 |(m,k)::r,n,acc,x,h=>by
  unfold cellsFrom;rcases aN.mp h with e|h
  .cases e;exact⟨n,AJ aB⟩
  .split
   .exact Em h
   .exact Em h
theorem El:∀{names:List (Str×NameKind)} {h:Heap} {acc:List (Str×Addr)} {x y:Str} {c:Addr},(∀p∈acc,p.2<h.objs.size)->(∀x y c,(x,c)∈acc->(y,c)∈acc->x=y)->
  (x,c)∈cellsFrom h.objs.size names acc->(y,c)∈cellsFrom h.objs.size names acc->x=y
 |[],_,_,_,_,_,_,hi,h1,h2=>hi _ _ _ h1 h2
 |(n,k)::r,h,acc,x,y,c,hl,hi,h1,h2=>by
  unfold cellsFrom at h1 h2;split at h1
  .rename_i hk;rw[ah hk]at h2;rw[<-Heap.size_push h {cls:=.type "cell",data:=.cell none}]at h1 h2;refine El (h:=h.push _) (λp hp=>?_) (λx y c a b=>?_) h1 h2
   .rw[Heap.size_push];rcases aN.mp hp with rfl|hp
    .exact Nat.lt_succ_self _
    .exact Nat.lt_succ_of_lt (hl p hp)
   .rcases aN.mp a with e|a<;>rcases aN.mp b with e'|b
    .cases e;cases e';rfl
    .cases e;exact cJ (hl _ b) (Nat.lt_irrefl _)
    .cases e';exact cJ (hl _ a) (Nat.lt_irrefl _)
    .exact hi _ _ _ a b
  .rename_i hk;rw[aa hk]at h2;exact El hl hi h1 h2
def JR{M:Model}{A:Around}{E:Value->Shared->Prop}{s:Shared}{scope:Scope}{globals:Addr}{closure:List (Str×Addr)}{qual:Str}{func:Option Addr}{code:Value}{around:Env}{builtins:Addr}{Q:Env->Shared->Prop}
  (h:Q (newEnv scope s.heap.objs.size globals (cellsFrom (s.heap.objs.size+1) scope.names closure) qual func code (some around) builtins)
   {s with heap:=pushCells (s.heap.push {cls:=.type "dict",data:=.dict #[]}) scope.names}):
  wpAny M A (newFunctionEnv scope globals closure [] qual func code (some around) builtins) Q E s:=by
 simp only[newFunctionEnv,Option.isSome_some,if_true];refine b8 (wpAny_alloc ?_);refine b8 (wpAny_layCells _ (λn k c=>rfl) scope.names closure _ _ ?_);rw[show({s with heap:=s.heap.push {cls:=.type "dict",data:=.dict #[]}}:Shared).heap.objs.size=s.heap.objs.size+1 from Heap.size_push ..];rw[List.forIn_nil];exact b8 (b9 (b9 h))
theorem DO{sc:Scope}:∀{names:List (Str×NameKind)} {x:Str} {k:NameKind},
  (names.map λ(n,k)=>if(k==NameKind.free&&sc.kind== .function&&sc.names.lookup n==some .cell)then(n,NameKind.cell)else(n,k)).lookup x=some k->
  ∃k',names.lookup x=some k'/\(k=k'\/(k'= .free/\k= .cell))
 |[],_,_,h=>by simp at h
 |(n,k₀)::r,x,k,h=>by
  have ih:=@DO sc r x k;have h':List.lookup x ((if(k₀==NameKind.free&&sc.kind== .function&&sc.names.lookup n==some .cell)=true then(n,NameKind.cell)else(n,k₀))::(r.map _))=some k:=h;cases hx:x==n with
  |true=>
   simp only[List.lookup_cons,hx]
   by_cases hc:(k₀==NameKind.free&&sc.kind== .function&&sc.names.lookup n==some .cell)=true
   .rw[ah hc]at h';simp only[List.lookup_cons,hx]at h';cases h';simp only[aE,beq_iff_eq]at hc;exact⟨k₀,rfl,.inr ⟨hc.1.1,rfl⟩⟩
   .rw[aa hc]at h';simp only[List.lookup_cons,hx]at h';cases h';exact⟨_,rfl,.inl rfl⟩
  |false=>
   simp only[List.lookup_cons,hx]
   by_cases hc:(k₀==NameKind.free&&sc.kind== .function&&sc.names.lookup n==some .cell)=true
   .rw[ah hc]at h';simp only[List.lookup_cons,hx]at h';exact ih h'
   .rw[aa hc]at h';simp only[List.lookup_cons,hx]at h';exact ih h'
structure uJ(N:List Str)(sc scope:Scope)(own:List (Str×Nat)):Prop where
 kind:scope.kind= .function
 uniq:∀y∈scope.names,scope.names.lookup y.1=some y.2
 ix:∀p∈own,N[p.2]? =some p.1
 free:∀y∈scope.names,y.2= .free->sc.names.lookup y.1=some .cell\/sc.names.lookup y.1=some .free
 own:∀y∈scope.names,y.2= .local\/y.2= .cell->y.1∈own.map (·.1)\/y.1∉N
def wipe(σ:St):List Nat->St
 |[]=>σ
 |v::vs=>(wipe σ vs).set v none
theorem Am(σ:St):∀vs:List Nat,(wipe σ vs).length=σ.length
 |[]=>rfl
 |v::vs=>by unfold wipe;rw[List.length_set,Am σ vs]
theorem AA{σ:St}{i:Nat}{x:V}:∀{vs:List Nat},(wipe σ vs)[i]? =some (some x)->σ[i]? =some (some x)/\i∉vs
 |[],h=>⟨h,by simp⟩
 |v::vs,h=>by
  unfold wipe at h
  by_cases hi:v=i
  .subst hi
   by_cases hv:v<(wipe σ vs).length
   .rw[List.getElem?_set_self hv]at h;cases h
   .rw[List.getElem?_eq_none (by simpa using hv)]at h;cases h
  .rw[List.getElem?_set_ne hi]at h;obtain⟨h1,h2⟩:=AA h;exact⟨h1,by simp only[aN,not_or];exact⟨λe=>hi e.symm,h2⟩⟩
abbrev Cx.blk(X:Cx)(s:Shared)(H:Hp)(scope:Scope)(gK:Env)(fp:List Addr):Cx:={X with iw:=s,Ae:=H,env:=gK,outer:=X.stack,ex:=fp,fn:=λx=>scope.names.lookup x==some .cell,pn:=[],xe:=λ_ _=>False}
section
variable {X:Cx}{pins:List (Addr×Obj)}{σ:St}{H:Hp}{s:Shared}
def JY{scope:Scope}{own:List (Str×Nat)}{fp:List Addr}(I:Inv X pins σ H s)(ok:uJ X.N X.env.scope scope own)(hN:X.N.Nodup)(xr:∀b∈fp,lP X pins H b/\b<s.heap.objs.size):
  Inv (X.blk s H scope (compEnvC scope (cellsFrom (s.heap.objs.size+1) scope.names (iB X.env.cells scope.names [])) s.heap.objs.size X.env) fp) [] (wipe σ (own.map (·.2))) H {s with heap:=pushCells (s.heap.push {cls:=.type "dict",data:=.dict #[]}) scope.names}:=by
 have sP:∀y∈scope.names,y.2= .free->∃c,X.env.cells.lookup y.1=some c:=λy hy e=>by
  rcases ok.free y hy e with k|k
  .exact I.ok.has _ (.inl k)
  .exact I.ok.has _ (.inr k)
 generalize yJ:compEnvC scope (cellsFrom (s.heap.objs.size+1) scope.names (iB X.env.cells scope.names [])) s.heap.objs.size X.env=gK;have kp:∀b o,s.heap.get? b=some o->(pushCells (s.heap.push {cls:=.type "dict",data:=.dict #[]}) scope.names).get? b=some o:=λb o e=>pushCells_keeps _ _ _ _ (b_ _ e);have hL:gK.locals=s.heap.objs.size:=by rw[<-yJ];rfl
 have iU:gK.cells=cellsFrom (s.heap.objs.size+1) scope.names (iB X.env.cells scope.names []):=by rw[<-yJ];rfl
 have HA:gK.scope=aK8 scope X.env.scope:=by rw[<-yJ];rfl
 rw[<-Heap.size_push s.heap {cls:=.type "dict",data:=.dict #[]}]at iU;have cm:∀{y c},(y,c)∈iB X.env.cells scope.names []->X.env.cells.lookup y=some c/\c<s.heap.objs.size:=λ{y c} hm=>by
  rcases Ar hm with hm|⟨h1,rfl⟩
  .cases hm
  .obtain⟨c,hc⟩:=sP _ h1 rfl;rw[hc];obtain⟨w,z⟩:=I.cell _ _ hc;exact⟨rfl,z.lt⟩
 have mem:∀{y c},gK.cells.lookup y=some c->(X.env.cells.lookup y=some c/\c<s.heap.objs.size)\/(s.heap.objs.size+1<=c/\Oo (pushCells (s.heap.push {cls:=.type "dict",data:=.dict #[]}) scope.names) c none):=λ{y c} e=>by
  rw[iU]at e;rcases x8 (cz e)with hm|⟨_,h2,h3⟩
  .exact .inl (cm hm)
  .rw[Heap.size_push]at h2;exact .inr ⟨h2,h3⟩
 have look:∀{y},scope.names.lookup y=some .free->∃c,gK.cells.lookup y=some c/\X.env.cells.lookup y=some c:=λ{y} hl=>by
  have hy:(y,NameKind.free)∈scope.names:=cz hl;obtain⟨c',e'⟩:=mem_lookup (AJ (names:=scope.names) (n:=(s.heap.push {cls:=.type "dict",data:=.dict #[]}).objs.size) (DQ (cells:=X.env.cells) (acc:=[]) hy));rw[<-iU]at e';refine⟨c',e',?_⟩;rw[iU]at e';rcases x8 (cz e')with hm|⟨h1,_,_⟩
  .exact(cm hm).1
  .have:=ok.uniq _ h1;rw[hl]at this;cases this
 have okB:(X.blk s H scope gK fp).Ok:=by
  refine⟨I.ok.mod,by show gK.scope.kind=_;rw[HA];exact ok.kind,by show gK.globals=_;rw[<-yJ];exact I.ok.glob,by show gK.builtins=_;rw[<-yJ];exact I.ok.blt,by show s.heap.objs.size<=gK.locals;rw[hL];exact aI _,
   λy z c e1 e2=>?_,λy hy=>?_,λy c z e=>?_,I.ok.hd,I.ok.frames,.inl rfl,λb hb=>⟨?_,λy c e z=>?_⟩,I.bs,aV I.ok.qU I.sz,λb o e hb=>?_,λb hb z=>?_,I.stack,I.yf⟩
  .have e1:gK.cells.lookup y=some c:=e1;have e2:gK.cells.lookup z=some c:=e2;rw[iU]at e1 e2;refine El (λp hp=>?_) (λy z c a b=>I.ok.inj y z c (cm a).1 (cm b).1) (cz e1) (cz e2);rw[Heap.size_push];exact Nat.lt_succ_of_lt (cm (y:=p.1) (c:=p.2) hp).2
  .show ∃c,gK.cells.lookup y=some c;have key:∀k,gK.kindOf y=some k->(k= .cell\/k= .free)->∃c,gK.cells.lookup y=some c:=λk hk rP=>by
    unfold Env.kindOf at hk;rw[HA]at hk;obtain⟨k',e,r⟩:=DO hk;have:k'= .cell\/k'= .free:=by
     rcases r with rfl|⟨rfl,_⟩
     .exact rP
     .exact .inr rfl
    rcases this with rfl|rfl
    .obtain⟨c,hm⟩:=Em (n:=(s.heap.push {cls:=.type "dict",data:=.dict #[]}).objs.size) (acc:=iB X.env.cells scope.names []) (cz e);obtain⟨c',e'⟩:=mem_lookup hm;exact⟨c',by rw[iU];exact e'⟩
    .obtain⟨c,h1,_⟩:=look e;exact⟨c,h1⟩
   rcases hy with hy|hy
   .exact key _ hy (.inl rfl)
   .exact key _ hy (.inr rfl)
  .have z:(scope.names.lookup y==some NameKind.cell)=true:=z;have z:scope.names.lookup y=some .cell:=by simpa using z
   have e:gK.cells.lookup y=some c:=e;rw[iU]at e;rcases x8 (cz e)with hm|⟨_,h2,_⟩
   .rcases Ar hm with hm|⟨h1,_⟩
    .cases hm
    .have q:=ok.uniq _ h1;rw[z]at q;cases q
   .rw[Heap.size_push]at h2;exact Nat.le_of_succ_le h2
  .show b≠gK.locals;rw[hL];exact b5 (xr b hb).2
  .have e:gK.cells.lookup y=some c:=e;rcases mem e with⟨h1,_⟩|⟨h1,_⟩
   .exact(xr b hb).1.2.2.2.2.1 y c h1 z
   .have h2:s.heap.objs.size+1<=b:=by rw[<-z];exact h1
    exact cJ (bA (xr b hb).2 (Nat.le_of_succ_le h2)) (Nat.lt_irrefl _)
  .rcases(xr b hb).1.2.2.2.1 with z|z
   .exact I.ok.wI b o e z
   .exact cJ (bA (cj e) (aV I.ok.qU z)) (Nat.lt_irrefl _)
  .rcases aN.mp (I.vW b z)with z|z
   .exact(xr b hb).1.2.1 z
   .exact(xr b hb).1.2.2.1 z
 refine⟨okB,rfl,I.bare,Un.kept kp,⟨λ_=>none,?_,λi y av e1 e2 e3=>?_⟩,λy c e=>?_,?_,λy c e=>?_,λp hp=>?_,I.hok.kept kp,by rw[Am];exact I.len⟩
 .show Heap.Ns _ gK.locals _;rw[hL];exact Heap.Ns.keeps (Heap.Ns.new ..) λb o e=>pushCells_keeps _ _ _ _ e
 .obtain⟨e2,dR⟩:=AA e2;have iT:scope.names.lookup y=some .free/\(gK.kindOf y=some .cell\/gK.kindOf y=some .free):=by
   have key:∀k,gK.scope.names.lookup y=some k->k= .local\/k= .cell\/k= .free->scope.names.lookup y=some .free/\(gK.kindOf y=some .cell\/gK.kindOf y=some .free):=λk hk rP=>by
    have HN:=hk;rw[HA]at hk;obtain⟨k',e,r⟩:=DO hk;have no:¬(k'= .local\/k'= .cell):=λhh=>by
     rcases ok.own _ (cz e) hh with e'|e'
     .obtain⟨p,hp,hpy⟩:=bJ.mp e';have e3:=ok.ix p hp;have:p.1=y:=hpy;rw[this]at e3;exact dR (bJ.mpr ⟨p,hp,EB hN e3 e1⟩)
     .exact e' (bx e1)
    rcases r with rfl|⟨rfl,rfl⟩
    .rcases rP with rfl|rfl|rfl
     .exact cJ (.inl rfl) no
     .exact cJ (.inr rfl) no
     .exact⟨e,.inr HN⟩
    .exact⟨e,.inl HN⟩
   have e3:xJ gK.scope y:=e3;rcases e3 with e3|e3|e3
   .exact key _ e3 (.inl rfl)
   .exact key _ e3 (.inr (.inl rfl))
   .exact key _ e3 (.inr (.inr rfl))
  obtain⟨m,hn,hl⟩:=I.loc;have aM6:xJ X.env.scope y:=(ok.free _ (cz iT.1) rfl).elim (λk=>.inr (.inl k)) (λk=>.inr (.inr k));obtain⟨w,r,q⟩:=hl i y av e1 e2 aM6;refine⟨w,r,.inr ⟨iT.2,?_⟩⟩;obtain⟨c,h1,h2⟩:=look iT.1;rcases q with⟨k,_⟩|⟨_,c',e',z⟩
  .have k:X.env.scope.names.lookup y=some .local:=k;rcases ok.free _ (cz iT.1) rfl with k'|k'<;>rw[show X.env.scope.names.lookup y=_ from k']at k<;>cases k
  .rw[h2]at e';cases e';exact⟨c,h1,z.keeps kp⟩
 .have e:gK.cells.lookup y=some c:=e;rcases mem e with⟨h1,_⟩|⟨_,z⟩
  .obtain⟨w,z⟩:=I.cell y c h1;exact⟨w,z.keeps kp⟩
  .exact⟨_,z⟩
 .show H gK.locals=none;rw[hL];exact I.hok.fresh (aI _)
 .have e:gK.cells.lookup y=some c:=e;rcases mem e with⟨h1,_⟩|⟨h1,_⟩
  .exact I.mH y c h1
  .exact I.hok.fresh (Nat.le_of_succ_le h1)
 .exact cJ (show p∈([]:List (Addr×Obj))++[]from hp) (by simp)
def Oj{E:Value->Shared->Prop}{D:Addr}{xs:List V}{y:V}{v:Value}{Q:Value->Shared->Prop}(I:Inv X pins σ H s)(hD:H D=some (.lst xs))(hz:xs.length<sizeLine)(r:RelV y v)
  (h:∀s',Inv X pins σ (upd H D (.lst (xs++[y]))) s'->Q .none s'):wpAny (model X.prog X.w) X.A (call (.builtin "list.append") [.ref D,v]) Q E s:=by
 obtain⟨hz',c7,n,ri,e⟩:=I.hok D _ hD;have hl:=ri.length;refine append_at (hsz:=by rw[bQ];lia) e λh' sb jF=>?_;refine h {s with heap:=h'} (I.write (t':=s.toks) (by rw[hD];trivial) (.inl rfl) (λb u hb q=>(sb.2 b hb).trans q) ⟨_,jF⟩ ⟨by rw[aC];exact hz,c7++[v],n+1,ri.append (.cons r .nil),?_⟩);rw[jF];simp
def vm(X:Cx)(ifs:List Expr)(t:TT):Prop:=
 ∀(pins:List (Addr×Obj)) (s:Shared) (σ:St) (H:Hp) (Q:Bool->Hp->Prop),Inv X pins σ H s->t σ H Q->
  wpAny (model X.prog X.w) X.A (forIn ifs true λc r=>if r=true then do let ok <-isTrue c X.env (eval c X.env);pure (ForInStep.yield ok)else pure (ForInStep.yield r)) (TP X pins σ Q) X.xe s
def aJ4:TT:=λ_ H Q=>Q true H
def mq:vm X [] aJ4:=λ_ _ _ H _ I h=>wpAny_tests_nil ⟨H,I,h⟩
def mj{c:Expr}{t:TT}(h:PT X c t):vm X [c] t:=λpins s σ H Q I hw=>wpAny_tests_one (h pins s σ H Q I hw)
end
def nH{α:Type}{t:Sem α}{Q Q':α->Shared->Prop}{M:Model}{A:Around}{E:Value->Shared->Prop}{s:Shared}(h:wpAny M A t Q (λ_ _=>False) s)(hQ:∀a s,Q a s->Q' a s):wpAny M A t Q' E s:=wpAny_mono h hQ λ_ _ z=>False.elim z
def JG{prog:Program}{w:World}{A:Around}{R:Result->Shared->Prop}{s:Shared}{elt target iter:Expr}{ifs:List Expr}{scope:Scope}{pos:Pos}{it acc:Value}{env:Env}(I:Nat->Shared->Prop)
  (turn:∀n s,I n s->wpAny (model prog w) A (pyNext it) (λr s₁=>match r with
   |none=>R (.ok .next) s₁
   |some v=>wpAny (model prog w) A (letOwnedTupleGo target it v) (λ_ s₁'=>wpAny (model prog w) A (assign target env v) (λ_ s₂=>
     wpAny (model prog w) A (forIn ifs true λc r=>if r=true then do let ok <-isTrue c env (eval c env);pure (ForInStep.yield ok)else pure (ForInStep.yield r)) (λok s₃=>
      if ok=true then wpAny (model prog w) A (eval elt env) (λx s₄=>
       wpAny (model prog w) A (call (.builtin "list.append") [acc,x]) (λ_ s₅=>∃m,m<n/\I m s₅) (notedBy (model prog w) A env λe s'=>R (.error e) s') s₄) (notedBy (model prog w) A env λe s'=>R (.error e) s') s₃
      else ∃m,m<n/\I m s₃) (notedBy (model prog w) A env λe s'=>R (.error e) s') s₂) (notedBy (model prog w) A env λe s'=>R (.error e) s') s₁') (notedBy (model prog w) A env λe s'=>R (.error e) s') s₁) (notedBy (model prog w) A env λe s'=>R (.error e) s') s)
  (n:Nat)(h:I n s):
  codeAny (model prog w) A (.compLoop (.ListComp elt [⟨target,iter,ifs,0⟩] scope pos) 0 it acc env) R s:=by
 refine codeAny_loop rfl I (λn s hI=>?_) n h;show wpAny _ A ((compTurn (.ListComp elt [⟨target,iter,ifs,0⟩] scope pos) 0 it acc env).onRaise (λx=>do noteFrame x env;theTreesLotGoes x)) _ _ s;refine wpAny_noted ?_;rw[compTurn_list];refine b8 (wpAny_standAt (b8 (wpAny_mono (turn n s hI) (λr s₁ h₁=>?_) λ_ _ h'=>h')));cases r with
 |none=>exact b9 h₁
 |some v=>
  refine b8 (wpAny_mono h₁ (λ_ s₁' h₁'=>?_) λ_ _ h'=>h');refine b8 (wpAny_mono h₁' (λ_ s₂ h₂=>b8 (wpAny_mono h₂ (λok s₃ h₃=>?_) λ_ _ h'=>h')) λ_ _ h'=>h');cases ok with
  |false=>exact b9 ⟨rfl,h₃⟩
  |true=>
   exact b8 (b8 (wpAny_mono h₃ (λx s₄ h₄=>b8 (wpAny_mono h₄ (λ_ s₅ h₅=>b9 (b9 ⟨rfl,h₅⟩)) λ_ _ h'=>h')) λ_ _ h'=>h'))
section
variable {X:Cx}
def uN(wi:TI)(g:TG)(tt:TT)(te:TE)(vs:List Nat):TE:=λσ H Q=>wi σ H λJ H1=>∀D,H1 D=none->∃W:Nat->Nat->Hp->Prop,(∃m,W 0 m (upd H1 D (.lst [])))/\∀i m H,W i m H->
 (J.stop i H/\Q (.ref D) H)\/(J.go i H/\∃Nx:Hp->Prop,(∀H',Nx H'->∃m',m'<m/\W (i+1) m' H')/\∀x H',J.jS i H x H'->g x (wipe σ vs) H' λσ2 H2=>wipe σ2 vs=wipe σ vs/\tt σ2 H2 λb H3=>
  if b=true then te σ2 H3 λy H4=>∃acc,H4 D=some (.lst acc)/\acc.length<sizeLine/\Nx (upd H4 D (.lst (acc++[y])))else Nx H3)
def MF{pins:List (Addr×Obj)}{s:Shared}{σ:St}{H:Hp}{Q:VK}{elt tg iter:Expr}{ifs:List Expr}{scope:Scope}{own:List (Str×Nat)}{pos pos':Pos}{wi:TI}{g:TG}{tt:TT}{te:TE}{use:Option (Value->Sem Unit)}{Qf:Value->Shared->Prop}
  (hc:X.calm=true)(hN:X.N.Nodup)(I:Inv X pins σ H s)(hi:PI X tg iter wi)(ok:uJ X.N X.env.scope scope own)
  (hg:∀(s:Shared) (H:Hp) (C:Addr) (cl:List (Str×Addr)) (fp:List Addr),PG (X.blk s H scope (compEnvC scope cl C X.env) fp) tg g)(ht:∀(s:Shared) (H:Hp) (C:Addr) (cl:List (Str×Addr)) (fp:List Addr),vm (X.blk s H scope (compEnvC scope cl C X.env) fp) ifs tt)
  (he:∀(s:Shared) (H:Hp) (C:Addr) (cl:List (Str×Addr)) (fp:List Addr),PE (X.blk s H scope (compEnvC scope cl C X.env) fp) elt te)(hs:∀x,foldedSetIterable iter X.env x=pure x)
  (h:uN wi g tt te (own.map (·.2)) σ H Q)
  (Ig:∀D C s' m H',Inv X pins σ H' s'->Q (.ref D) H'->s'.heap.Ns C m->lP X pins H' C->compPost (model X.prog X.w) X.A X.xe use Qf (.ref D) C (.ok .next) s'):
  wpAny (model X.prog X.w) X.A (comprehension (.ListComp elt [⟨tg,iter,ifs,0⟩] scope pos) scope X.env pos' (newList []) false (eval iter X.env) use) Qf X.xe s:=by
 have sP:∀y∈scope.names,y.2= .free->∃c,X.env.cells.lookup y.1=some c:=λy hy e=>by
  rcases ok.free y hy e with k|k
  .exact I.ok.has _ (.inl k)
  .exact I.ok.has _ (.inr k)
 refine wpAny_comprehension_free (use:=use) rfl hs (Ko sP) ok.kind (λy hy e=>by rw[ok.uniq y hy,e])
  (dY (hi pins s σ H _ I h) λxv s1 hx=>dY hx λCq s2 h2=>?_)
 obtain⟨it,fp,tn,J,H2,e,I2,T,uO,f2,q⟩:=h2;subst e;refine wpAny_newObj_type (JR ?_) (by show 0<=sizeLine;decide);generalize hD:s2.heap.objs.size=D;have tU:H2 D=none:=I2.hok.fresh (Nat.le_of_eq hD);obtain⟨W,⟨m0,w0⟩,turn⟩:=q D tU;generalize zD:({s2 with heap:=s2.heap.push {cls:=.type "list",data:=.seq ([]:List Value).toArray}}:Shared)=s3;have I3:Inv X pins σ (upd H2 D (.lst [])) s3:=by
  rw[<-zD];refine I2.laid (t':=s2.toks) (λb o e=>b_ _ e) (Nat.le_of_eq hD) ⟨aP _,[],0,.nil,?_⟩;rw[<-hD];exact cu _ rfl
 have h3:s3.heap=s2.heap.push {cls:=.type "list",data:=.seq ([]:List Value).toArray}:=by rw[<-zD]
 have sz:∀b∈fp,b<s2.heap.objs.size:=λb hb=>by
  obtain⟨o,e,_⟩:=T.obj _ _ uO b hb;exact cj e
 have f3:∀b∈fp,lP X pins (upd H2 D (.lst [])) b/\b<s3.heap.objs.size:=λb hb=>by
  have eF:=sz b hb;refine⟨⟨?_,(f2 b hb).2⟩,by rw[h3,Heap.size_push];exact Nat.lt_succ_of_lt eF⟩;rw[eK (by rw[<-hD];exact b5 eF)];exact(f2 b hb).1
 have wN:tn 0 s3.heap:=T.keep _ _ _ uO λb _ o e=>by rw[h3];exact b_ _ e
 have I4:=JY I3 ok hN f3;have pg:=hg s3 (upd H2 D (.lst [])) s3.heap.objs.size (cellsFrom (s3.heap.objs.size+1) scope.names (iB X.env.cells scope.names [])) fp;have pt:=ht s3 (upd H2 D (.lst [])) s3.heap.objs.size (cellsFrom (s3.heap.objs.size+1) scope.names (iB X.env.cells scope.names [])) fp;have pe:=he s3 (upd H2 D (.lst [])) s3.heap.objs.size (cellsFrom (s3.heap.objs.size+1) scope.names (iB X.env.cells scope.names [])) fp;show codeAny _ _ (.compStart (.ListComp elt [⟨tg,iter,ifs,0⟩] scope pos) 0 (.ref it) (.ref D) (compEnvC scope (cellsFrom (s3.heap.objs.size+1) scope.names (iB X.env.cells scope.names [])) s3.heap.objs.size X.env)) (compPost (model X.prog X.w) X.A X.xe use Qf (.ref D) s3.heap.objs.size) {s3 with heap:=pushCells (s3.heap.push {cls:=.type "dict",data:=.dict #[]}) scope.names};have uX:∀b∈fp,(upd H2 D (.lst [])) b=none:=λb hb=>(f3 b hb).1.1;generalize zP:compEnvC scope (cellsFrom (s3.heap.objs.size+1) scope.names (iB X.env.cells scope.names [])) s3.heap.objs.size X.env=ce at I4 pg pt pe ⊢;have cL:ce.locals=s3.heap.objs.size:=by subst zP;rfl
 generalize hH3:upd H2 D (.lst [])=H3 at I3 I4 pg pt pe w0 uX f3;generalize HB:({s3 with heap:=pushCells (s3.heap.push {cls:=.type "dict",data:=.dict #[]}) scope.names}:Shared)=s4 at I4 ⊢;have zo:tn 0 s4.heap:=T.keep _ _ _ wN λb _ o e=>by rw[<-HB];exact pushCells_keeps _ _ _ _ (b_ _ e)
 have oY:∀{σ':St} {H':Hp} {s':Shared},Inv (X.blk s3 H3 scope ce fp) [] σ' H' s'->(∀b∈fp,H' b=none)->∀b∈fp,lP (X.blk s3 H3 scope ce fp) [] H' b:=λ{σ' H' s'} I' hn b hb=>
  ⟨hn b hb,(I'.ok.ve b hb).1,I'.ok.uL b hb,.inl hb,λx c e=>(I'.ok.ve b hb).2 x c e,λp hp=>cJ (show p∈([]:List (Addr×Obj))++[]from hp) (by simp)⟩
 have loop:codeAny (model X.prog X.w) X.A (.compLoop (.ListComp elt [⟨tg,iter,ifs,0⟩] scope pos) 0 (.ref it) (.ref D) ce) (compPost (model X.prog X.w) X.A X.xe use Qf (.ref D) s3.heap.objs.size) s4:=by
  refine JG (λn s'=>∃i H',Inv (X.blk s3 H3 scope ce fp) [] (wipe σ (own.map (·.2))) H' s'/\tn i s'.heap/\(∀b∈fp,H' b=none)/\W i n H') ?_ m0 ⟨0,H3,I4,zo,uX,w0⟩;rintro n s5 ⟨i,H5,I5,rM,n5,w5⟩;rcases turn i n H5 w5 with⟨stop,qq⟩|⟨go,Nx,Ih,step⟩
  .have td:=T.done (X.blk s3 H3 scope ce fp) rfl rfl rfl hc i [] s5 _ H5 (λ_ _=>False) I5 (oY I5 n5) rM stop;refine nH td λr s6 ⟨hr,I6⟩=>?_;subst hr;have I7:Inv X pins σ H5 s6:=I3.BO (ch:=fp) I6.os I6.base I6.hok I6.bare λb hb=>⟨(f3 b hb).1.2.2.2.1,(f3 b hb).1.2.1,(f3 b hb).1.2.2.2.2.1,(f3 b hb).1.2.2.2.2.2⟩;have nC:H5 s3.heap.objs.size=none:=by
    have z:H5 ce.locals=none:=I6.free;rw[cL]at z;exact z
   obtain⟨m,hn,_⟩:=I6.loc;have hn:s6.heap.Ns ce.locals m:=hn;rw[cL]at hn;exact Ig D s3.heap.objs.size s6 m H5 I7 qq hn (I3.sW (aI _) nC)
  .have ti:=T.item (X.blk s3 H3 scope ce fp) rfl rfl rfl hc i [] s5 _ H5 (λ_ _=>False) I5 (oY I5 n5) rM go;refine nH ti λr s6 ⟨u,hr,h6⟩=>?_;subst hr;refine nH h6 λ_ s7 ⟨x,H7,I7,r7,y7,rL,n7⟩=>?_;have IM:=I7.pinned (oY I7 n7) (T.obj _ _ rL);refine nH (pg _ s7 _ H7 x u _ IM r7 (step x H7 y7)) λ_ s8 ⟨qG,H8,I8,zC,q8⟩=>?_;refine nH (pt _ s8 qG H8 _ I8 q8) λb s9 ⟨H9,I9,q9⟩=>?_;have fin:∀{s':Shared} {H':Hp},Inv (X.blk s3 H3 scope ce fp) ([]++qk fp s7.heap) qG H' s'->Nx H'->∃m,m<n/\∃i H',Inv (X.blk s3 H3 scope ce fp) [] (wipe σ (own.map (·.2))) H' s'/\tn i s'.heap/\(∀b∈fp,H' b=none)/\W i m H':=λ{s' H'} I' nx=>by
    obtain⟨m',hm,w'⟩:=Ih H' nx;have zb:∀b∈fp,∀o,s7.heap.get? b=some o->s'.heap.get? b=some o/\H' b=none:=λb hb o e=>
     let z:=I'.pin (b,o) (bD _ (bD _ (vC hb e)))
     ⟨z.1,z.2.1⟩
    have hl:(wipe σ (own.map (·.2))).length=qG.length:=by rw[<-zC,Am]
    refine⟨m',hm,i+1,H',(I'.x_ (pins:=[])).weak hl (λj v e=>?_),T.keep _ _ _ rL λb hb o e=>(zb b hb o e).1,λb hb=>?_,w'⟩
    .rw[<-zC]at e;exact(AA e).1
    .obtain⟨o,e,_⟩:=T.obj _ _ rL b hb;exact(zb b hb o e).2
   cases b with
   |false=>
    simp only[Bool.false_eq_true,if_false]at q9 ⊢;exact fin I9 q9
   |true=>
    simp only[if_true]at q9 ⊢;refine nH (pe _ s9 qG H9 _ I9 q9) λz wQ ⟨yv,TU,IQ,Hg,acc,GN,Gw,nx⟩=>?_;exact Oj (X:=X.blk s3 H3 scope ce fp) IQ GN Gw Hg λG0 IP=>fin IP nx
 exact codeAny_compStart_list loop (T.self X.A 0 _ _ _ zo loop)
def nk{elt tg iter:Expr}{ifs:List Expr}{scope:Scope}{own:List (Str×Nat)}{pos:Pos}{wi:TI}{g:TG}{tt:TT}{te:TE}(hc:X.calm=true)(hN:X.N.Nodup)(hi:PI X tg iter wi)(ok:uJ X.N X.env.scope scope own)
  (hg:∀(s:Shared) (H:Hp) (C:Addr) (cl:List (Str×Addr)) (fp:List Addr),PG (X.blk s H scope (compEnvC scope cl C X.env) fp) tg g)(ht:∀(s:Shared) (H:Hp) (C:Addr) (cl:List (Str×Addr)) (fp:List Addr),vm (X.blk s H scope (compEnvC scope cl C X.env) fp) ifs tt)
  (he:∀(s:Shared) (H:Hp) (C:Addr) (cl:List (Str×Addr)) (fp:List Addr),PE (X.blk s H scope (compEnvC scope cl C X.env) fp) elt te)(hs:∀x,foldedSetIterable iter X.env x=pure x:=by intro _;rfl):
  PE X (.ListComp elt [⟨tg,iter,ifs,0⟩] scope pos) (uN wi g tt te (own.map (·.2))):=by
 intro pins s σ H Q I h;rw[eval_ListComp];refine MF hc hN I hi ok hg ht he hs h λD C s' m H' I' q hn f=>⟨m,hn,λCU sb=>?_⟩;obtain⟨f0,f1,f2,f3,f4,f5⟩:=f;exact⟨.ref D,H',I'.turned (t':=s'.toks) (λb o hb e=>(sb.2 b hb).trans e) f0 f1 f3 f4 f5,rfl,q⟩
def l_{i:Nat}{y:Str}{py:Pos}{elt tg iter:Expr}{ifs:List Expr}{scope:Scope}{own:List (Str×Nat)}{pos yU:Pos}{wi:TI}{g:TG}{tt:TT}{te:TE}(hc:X.calm=true)(hN:X.N.Nodup)(hy:X.N[i]? =some y)(zA:X.env.scope.names.lookup y=some .local)
  (Hz:swapsWith (.ListComp elt [⟨tg,iter,ifs,0⟩] scope pos) (some (.Name y py)) yU.line X.env=pure true)(hi:PI X tg iter wi)(ok:uJ X.N X.env.scope scope own)
  (hg:∀(s:Shared) (H:Hp) (C:Addr) (cl:List (Str×Addr)) (fp:List Addr),PG (X.blk s H scope (compEnvC scope cl C X.env) fp) tg g)(ht:∀(s:Shared) (H:Hp) (C:Addr) (cl:List (Str×Addr)) (fp:List Addr),vm (X.blk s H scope (compEnvC scope cl C X.env) fp) ifs tt)
  (he:∀(s:Shared) (H:Hp) (C:Addr) (cl:List (Str×Addr)) (fp:List Addr),PE (X.blk s H scope (compEnvC scope cl C X.env) fp) elt te)(hs:∀x,foldedSetIterable iter X.env x=pure x:=by intro _;rfl):
  PS X (.Assign [.Name y py] (.ListComp elt [⟨tg,iter,ifs,0⟩] scope pos) yU) (yT (uN wi g tt te (own.map (·.2))) (rB i)):=by
 intro pins s σ H D I h;rw[exec_Assign_Name_used _ _ _ _ Hz];refine b8 (wpAny_standAt (b8 ?_));show wpAny _ X.A (do let _ <-comprehension (.ListComp elt [⟨tg,iter,ifs,0⟩] scope pos) scope X.env (firstIterPos [⟨tg,iter,ifs,0⟩] pos) (newList []) false (eval iter X.env) (some (assign (.Name y py) X.env))) _ _ s;have h:uN wi g tt te (own.map (·.2)) σ H (λx H1=>rB i x σ H1 D.nx):=h;refine b8 (dY (MF (Qf:=λ_ s'=>SP X pins D .next s') hc hN I hi ok hg ht he hs h λL C s' m H' I' q hn f=>?_) λ_ s' hq=>b9 (b9 hq));show wpAny _ _ (assign (.Name y py) X.env (.ref L)) _ _ _;refine wpAny_assign_Name (D8 (v:=V.ref L) I' hN hy (.inl zA) rfl (λs2 I2 ⟨a,sb,ha⟩=>?_) (.inr zA));obtain⟨f0,f1,f2,f3,f4,f5⟩:=f;have Ib:C≠a:=by
  rcases ha with z|z
  .rw[z];exact f1
  .exact λe=>f4 y a z e.symm
 refine⟨m,hn.sameBut sb Ib,λh3 GZ=>?_⟩;exact⟨_,H',I2.turned (t':=s2.toks) (λb o hb e=>(GZ.2 b hb).trans e) f0 f1 f3 f4 f5,q⟩
def lD{elt:Expr}{gs:List Comprehension}{scope:Scope}{pos py:Pos}{y:Str}{l:Nat}{env:Env}(hk:env.scope.kind= .function)(hy:env.scope.names.lookup y=some .local)(hl:(py.line==pos.line)=true)
  (ha:(scope.names.any λ(n,k)=>n==y&&(k== .local||k== .cell))=false):swapsWith (.ListComp elt gs scope pos) (some (.Name y py)) l env=pure true:=by
 have ky:env.kindOf y=some .local:=hy;have hb:env.blockKind= .function:=by unfold Env.blockKind;rw[hk];rfl
 unfold swapsWith;simp only[hb,ky,ha,Expr.pos,hl];rfl
end
def Bh{K:b6}{a:Addr}{xs:List V}{g:TG}{tt:TT}{te:TE}{vs:List Nat}{σ:St}{H1:Hp}{D:Addr}{Qd:Hp->Prop}(Pv:Nat->Hp->Prop)(h0:Pv 0 (upd H1 D (.lst [])))(hl:∀i H,i<=xs.length->Pv i H->cU K H a xs)
  (hs:∀i x H,xs[i]? =some x->Pv i H->g x (wipe σ vs) H λσ2 H2=>wipe σ2 vs=wipe σ vs/\tt σ2 H2 λb H3=>
   if b=true then te σ2 H3 λy H4=>∃acc,H4 D=some (.lst acc)/\acc.length<sizeLine/\Pv (i+1) (upd H4 D (.lst (acc++[y])))else Pv (i+1) H3)(hd:∀H,Pv xs.length H->Qd H):
  ∃W:Nat->Nat->Hp->Prop,(∃m,W 0 m (upd H1 D (.lst [])))/\∀i m H,W i m H->
   ((pU K a).stop i H/\Qd H)\/((pU K a).go i H/\∃Nx:Hp->Prop,(∀H',Nx H'->∃m',m'<m/\W (i+1) m' H')/\∀x H',(pU K a).jS i H x H'->g x (wipe σ vs) H' λσ2 H2=>wipe σ2 vs=wipe σ vs/\tt σ2 H2 λb H3=>
    if b=true then te σ2 H3 λy H4=>∃acc,H4 D=some (.lst acc)/\acc.length<sizeLine/\Nx (upd H4 D (.lst (acc++[y])))else Nx H3):=by
 refine⟨λi m H=>m=xs.length-i/\i<=xs.length/\Pv i H,⟨xs.length,by simp,aP _,h0⟩,?_⟩;rintro i m H ⟨rfl,hi,p⟩;have q:=hl i H hi p
 by_cases eF:i<xs.length
 .refine .inr ⟨⟨xs,xs[i],q,by simp[eF]⟩,Pv (i+1),λH' p'=>⟨xs.length-(i+1),(),rfl,eF,p'⟩,λx H' y=>?_⟩;obtain⟨e,y⟩:=y;subst e;exact hs i x _ (y xs q) p
 .have e:i=xs.length:=();subst e;exact .inl ⟨⟨xs,q,aI _⟩,hd H p⟩
noncomputable def RQ(N:List Str)(sc scope:Scope)(own:List (Str×Nat)):Bool:=
 (match scope.kind with | .function=>true|_=>false)&&(scope.names.all λy=>decide (scope.names.lookup y.1=some y.2))&&(own.all λp=>decide (N[p.2]? =some p.1))&&
  (scope.names.all λy=>match y.2 with
   | .free=>(match sc.names.lookup y.1 with |some .cell=>true|some .free=>true|_=>false)
   | .local=>decide (y.1∈own.map (·.1))||decide (y.1∉N)
   | .cell=>decide (y.1∈own.map (·.1))||decide (y.1∉N)
   |_=>true)
def iA{N:List Str}{sc scope:Scope}{own:List (Str×Nat)}(h:RQ N sc scope own=true):uJ N sc scope own:=by
 unfold RQ at h;simp only[aE,bg,decide_eq_true_eq]at h;obtain⟨⟨⟨h1,h2⟩,h3⟩,h4⟩:=h;refine⟨?_,h2,h3,λy hy e=>?_,λy hy e=>?_⟩
 .split at h1
  .assumption
  .cases h1
 .have q:=h4 y hy;simp only[e]at q;split at q<;>first |exact .inl (by assumption)|exact .inr (by assumption)|cases q
 .have q:=h4 y hy;rcases e with e|e<;>(simp only[e,Bool.or_eq_true,decide_eq_true_eq]at q;exact q)
section
variable {κ:Type}[DecidableEq κ]
def ku(d_:List (κ×V))(k:κ):Option V:=(d_.find? λkv=>decide (kv.1=k)).map (·.2)
def ZT{p:κ×V}{r:List (κ×V)}{k:κ}(e:p.1=k):ku (p::r) k=some p.2:=by simp[ku,List.find?_cons,e]
def ZU{p:κ×V}{r:List (κ×V)}{k:κ}(e:¬p.1=k):ku (p::r) k=ku r k:=by simp[ku,List.find?_cons,e]
def o_.Zg{o:Option V}{u:Option Value}(r:o_ o u):o.isSome=u.isSome:=by
 cases o with
 |none=>cases u with
  |none=>rfl
  |some _=>exact(show False from r).elim
 |some _=>cases u with
  |none=>exact(show False from r).elim
  |some _=>rfl
def KV.val{d_:List (κ×V)}{vs:List (κ×Value)}(r:KV d_ vs)(k:κ):o_ (ku d_ k) (valueAt vs k):=by
 unfold KV at r
 induction r with
 |nil=>exact True.intro
 |@cons p q ps qs h t ih=>
  obtain⟨h1,h2⟩:=h
  by_cases e:p.1=k
  .have e':q.1=k:=h1.symm.trans e;have b:valueAt (q::qs) k=some q.2:=by simp[valueAt,List.find?_cons,e']
   rw[ZT e,b];exact h2
  .have e':¬q.1=k:=λz=>e (h1.trans z);have b:valueAt (q::qs) k=valueAt qs k:=by simp[valueAt,List.find?_cons,e']
   rw[ZU e,b];exact ih
end
def Qp{P:Program}{w:World}{k:Key}{u:Value}(r:RelV (kV k) u):(qg P w).is k u=true:=by
 cases k with
 |inl i=>obtain⟨t,e⟩:=(show ∃t,u=Value.int i t from r);subst e;exact Xo P w i t
 |inr x=>obtain⟨t,e⟩:=(show ∃t,u=Value.str x t from r);subst e;exact Xn P w x t
def RT(i:Expr):Prop:=∀ov iv,subscripted i false ov iv=operate [ov,iv] (getItem ov iv)
def ag6{prog:Program}{w:World}{A:Around}{E:Value->Shared->Prop}{s:Shared}{env:Env}{value slice:Expr}{pos:Pos}{T id:String}{Q:Value->Shared->Prop}
  (hl:typeLookup (.type T) "__getitem__"=pure (some (.builtin id)))(hs:RT slice)
  (h:wpAny (model prog w) A (eval value env) (λo s₁=>wpAny (model prog w) A (eval slice env) (λi s₂=>s₂.TypeIs o T/\wpAny (model prog w) A (getItem o i) Q E s₂) E s₁) E s):
  wpAny (model prog w) A (eval (.Subscript value slice pos) env) Q E s:=by
 refine Subscript_ (wpAny_mono h (λo s₁ h₁=>wpAny_mono h₁ (λi s₂ h₂=>?_) λ_ _ x=>x) λ_ _ x=>x);obtain⟨hT,h₂⟩:=h₂;unfold subscriptTail;refine b8 ?_;rw[getitemInPython_of_ne hT.not_modules];refine b8 (wpAny_specialOf hT hl ?_);have fin:wpAny (model prog w) A (subscripted slice false o i) (λr s₃=>wpAny (model prog w) A (letTemporaryGo value o r >>= λ_=>pure r) Q E s₃) E s₂:=by
  rw[hs o i];exact wpAny_operating (wpAny_mono h₂ (λr s₃ h₃=>b8 (wpAny_letTemporaryGo (b9 h₃))) λ_ _ x=>x)
 first
  |exact b9 (b8 fin)
  |exact b8 (b9 (b8 fin))
  |exact b8 fin
section
variable {X:Cx}{pins:List (Addr×Obj)}{σ:St}{H:Hp}{s:Shared}{h':Heap}
def Inv.Kz{t':Nat}{ch:List Addr}{T:Addr}{ob:HO}(I:Inv X pins σ H s)(k:∀b o,b∉ch->s.heap.get? b=some o->h'.get? b=some o)(hf:∀b∈ch,lP X pins H b)(hT:s.heap.objs.size<=T)
  (new:ji X.prog X.w (upd H T ob) h' T ob):Inv X pins σ (upd H T ob) {s with heap:=h',toks:=t'}:=by
 have hn:H T=none:=I.hok.fresh hT;have zw:∀b u,H b=some u->b∉ch:=λb u e z=>by
  have q:=(hf b z).1;rw[q]at e;cases e
 refine I.step (g':=s.gens) (d':=s.drawn) (ch:=ch) (λb hb=>⟨(hf b hb).2.2.2.1,(hf b hb).2.1,(hf b hb).2.2.2.2.1,(hf b hb).2.2.2.2.2⟩) (λb o _ _ hc e _=>k b o hc e) (λb o _ _ hc e _=>⟨o.slots,k b o hc e⟩)
  (λb o _ e n=>?_) (λb o hc e=>⟨o,k b o hc e⟩) (λb xs e=>?_) (λb o u e=>?_) (λb ps e=>⟨#[],?_⟩) (λm hm=>?_) (λb u e=>?_) I.bare
 .rw[eK (b5 (bA (cj e) hT))];exact n
 .rw[eK (fE e hn)];exact e
 .rw[eK (fE e hn)];exact e
 .rw[eK (fE e hn),e];simp
 .obtain⟨o,es,ep,ho,r⟩:=hm;exact⟨o,es,ep,k _ o (λz=>(hf _ z).2.1 rfl) ho,r⟩
 .by_cases hb:b=T
  .subst hb;rw[cV]at e;cases e;exact new
  .rw[eK hb]at e;refine(I.hok b u e).stay (λc v hc q=>k c v ?_ q) (λc q=>by rw[eK (fE q hn)];exact q) λc xs q=>by rw[eK (fE q hn)];exact q
   rcases hc with z|z
   .rw[z];exact zw b u e
   .exact zw c _ z
end
section
variable {X:Cx}
def Fw{tg:Expr}{pins:List (Addr×Obj)}{σ:St}{H:Hp}{s:Shared}{R:It->Hp->Prop}{J:It}{tn:Nat->Heap->Prop}{tk:Nat}(I:Inv X pins σ H s)(o:Obj)
  (T:Turn X.prog X.w X.K tg J [s.heap.objs.size] s.heap.objs.size tn)(st:tn 0 (s.heap.push o))(q:R J H):II X pins σ tg R (.ref s.heap.objs.size) {s with heap:=s.heap.push o,toks:=tk}:=by
 refine⟨s.heap.objs.size,[s.heap.objs.size],tn,J,H,rfl,I.kept λb ob e=>b_ _ e,T,st,λb hb=>?_,q⟩;have e:b=s.heap.objs.size:=by simpa using hb
 subst e;exact I.sW (aI _) (I.hok.fresh (aI _))
end
def IL(x:Str):It:=⟨λi _=>i<x.cps.size,λi H v H'=>H'=H/\∃c,x.cps[i]? =some c/\v= .str ⟨#[c]⟩,λi _=>x.cps.size<=i⟩
def Lh{P:Program}{w:World}{K:b6}{tg:Expr}(it:Addr)(x:Str)(t:Tok)(ty:String)(tG:ty="str_ascii_iterator"\/ty="str_iterator"):
  Turn P w K tg (IL x) [it] it (λi h=>h.IsStrIter it ty x t i) where
 mem:=by simp
 obj:=λi h st b hb=>by
  have e:b=it:=by simpa using hb
  subst e;obtain⟨o,e,c,d⟩:=st;exact⟨o,e,λv z=>by rw[d]at z;cases z⟩
 keep:=λi h h' st k=>let⟨o,ho,r⟩:=st;⟨o,k it (by simp) o ho,r⟩
 item:=by
  intro X hP hw hK hc i pins s σ H E I hf st hg;subst hP hw hK;obtain⟨f0,f1,f2,f3,f4,f5⟩:=hf it (by simp);have W:Walks X.prog X.w X.A it [it] [it] x.cps.size (SignAt x) (λi h=>h.IsStrIter it ty x t i):=by
   rcases tG with e|e
   .rw[e];exact Walks.strAscii (I.ok.hd hc) it x t
   .rw[e];exact Walks.strWide (I.ok.hd hc) it x t
  have k8:["enumerate","zip","dict_itemiterator","dict_reverseitemiterator","odict_iterator","itertools.zip_longest","itertools.pairwise"].contains ty=false:=by
   rcases tG with e|e
   .rw[e];decide
   .rw[e];decide
  refine W.item i s _ _ hg st λv h' tk hv lQ kk=>?_;obtain⟨c,u,hcx,rfl⟩:=hv;have I1:Inv X pins σ H {s with heap:=h',toks:=tk}:=I.turned (λb o hb e=>kk b o (by simpa using hb) e) f0 f1 f3 f4 f5;obtain⟨oi,e,cc,dd⟩:=id lQ;exact⟨_,rfl,yK (s:={s with heap:=h',toks:=tk}) e cc dd k8 ⟨.str ⟨#[c]⟩,H,I1,⟨u,rfl⟩,⟨rfl,c,hcx,rfl⟩,lQ,λb hb=>(hf b hb).1⟩⟩
 done:=by
  intro X hP hw hK hc i pins s σ H E I hf st hg;subst hP hw hK;obtain⟨f0,f1,f2,f3,f4,f5⟩:=hf it (by simp);have hx:x.cps[i]? =none:=Array.getElem?_eq_none hg;rcases tG with e|e
  .rw[e]at st;exact wpAny_pyNext_ascii_end (I.ok.hd hc) st hx λh' eb=>⟨rfl,I.turned (t':=s.toks) (λb o hb e=>eb b o hb e) f0 f1 f3 f4 f5⟩
  .rw[e]at st;exact wpAny_pyNext_wide_end (I.ok.hd hc) st hx λh' eb=>⟨rfl,I.turned (t':=s.toks) (λb o hb e=>eb b o hb e) f0 f1 f3 f4 f5⟩
 self:=λA i s Q E st h=>by
  rcases tG with e|e
  .rw[e]at st;exact wpAny_pyIter_striter_ascii st h
  .rw[e]at st;exact wpAny_pyIter_striter_wide st h
inductive aB2(R:It->Hp->Prop)(v:V)(H1:Hp):Prop|m(x)(_:v= .str x)(_:R (IL x) H1)
def aM5(te:TE):TI:=λσ H R=>te σ H λv H1=>aB2 R v H1
def au6{X:Cx}{tg e:Expr}{te:TE}(he:PE X e te):PI X tg e (aM5 te):=by
 intro pins s σ H R I h;refine dY (he pins s σ H _ I h) λv s1 ⟨y,H1,I1,r1,x,ex,q⟩=>?_;subst ex;obtain⟨t,rfl⟩:=r1;cases ha:x.cps.all (·<128)
 .exact wpAny_pyIter_wide ha (Fw (tk:=s1.toks) I1 _ (Lh _ x t "str_iterator" (.inr rfl)) ⟨_,cu _ rfl,rfl,rfl⟩ q)
 .exact wpAny_pyIter_ascii ha (Fw (tk:=s1.toks) I1 _ (Lh _ x t "str_ascii_iterator" (.inl rfl)) ⟨_,cu _ rfl,rfl,rfl⟩ q)
section
variable {prog:Program}{w:World}{A:Around}{E:Value->Shared->Prop}{s:Shared}
def Zf{d:Addr}{o:Obj}{es:Array DictEntry}{ep:Nat}{Q:Value->Shared->Prop}(hd:(d==sysModules)=false)(ho:s.heap.get? d=some o)(hc:o.ExactDict)(RL:o.data= .dict es ep)
  (hQ:Q (.ref s.heap.objs.size) {s with heap:=s.heap.push {cls:=.type "dict_keyiterator",data:=.fields #[.ref d,.int 0 0,.int es.size 0,.int ep 0]}}):
  wpAny (model prog w) A (pyIter (.ref d)) Q E s:=by
 have hT:s.TypeIs (.ref d) "dict":=⟨o,ho,hc.1⟩;refine wpAny_pyIter_slot hT F.slot_dict_iter (wpAny_call_entry F.slot_dict_iter hT F.entry_dict_iter ?_ (F.args_dict_iter_1 _));unfold Builtin.«dict.__iter__»;refine b8 ?_;unfold Builtin.Dict.dictSlotNone;refine b8 (wpAny_notOrdered_dict hT ?_);show wpAny _ _ (pure (Value.ref d)) _ _ s;refine b9 ?_;show wpAny _ _ (Builtin.Dict.showsAll d >>= _) _ _ s;unfold Builtin.Dict.showsAll;rw[aa (by rw[hd];exact a_)];refine b8 (b9 ?_);refine b8 (wpAny_dictEntries ho RL ?_);refine b8 (wpAny_dictEpoch ho RL ?_);refine b8 (wpAny_newObj_type (b9 ⟨_,rfl,"dict_keyiterator",_,⟨_,cu _ rfl,rfl⟩,F.slot_dict_keyiterator_next.lookup,?_⟩));simpa[rawInt] using hQ
def WE{it d:Addr}{i n ep:Nat}{od:Obj}{es:Array DictEntry}{Q:Option Value->Shared->Prop}(hh:A.handled=none)(hit:s.heap.IsKeyIter it d i n ep)(Sz:s.heap.get? d=some od)(SQ:od.data= .dict es ep)
  (hsz:es.size=n)(lW:n<=i)(hQ:∀h',Heap.ExtBut it s.heap h'->Q none {s with heap:=h'}):wpAny (model prog w) A (pyNext (.ref it)) Q E s:=by
 obtain⟨o,ho,hc,hd⟩:=id hit;unfold pyNext;refine b8 (wpAny_attempt (wpAny_callSpecial?_slot (name:=Str.ofString "__next__") hit.typeIs F.slot_dict_keyiterator_next
  (wpAny_call_entry F.slot_dict_keyiterator_next hit.typeIs F.entry_dict_keyiterator_next ?_ (F.args_dict_keyiterator_next_1 _))))
 refine b8 (b9 ?_);refine b8 ?_;refine b8 ?_
 first |refine b8 (wpAny_typeNameOfWhole_keyiter hit.typeIs (b9 ?_))|refine b8 (wpAny_typeNameOf_keyiter hit.typeIs (b9 ?_))
 refine b8 (wpAny_fieldsOf ho hd ?_);have aN5:Builtin.Dict_items.ownsTuple "dict_keyiterator"=false:=();simp only[aN5,Bool.false_eq_true,if_false];show wpAny _ _ (if(Value.ref d==Value.none)=true then _ else _) _ _ s;rw[aa (show¬((Value.ref d==Value.none)=true)from a_)];refine b8 (b9 ?_);refine b8 (wpAny_dictEntries Sz SQ ?_);rw[aa (by rw[hsz];simp)];refine b8 (b9 ?_);refine b8 (wpAny_dictEpoch Sz SQ ?_);rw[aa (by simp)];refine b9 ?_;have aO9:es.size<=i:=by rw[hsz];exact lW
 simp only[show¬((i:Int)<0)from by lia,if_false,bZ,Array.getElem?_eq_none aO9];refine b8 ?_
 first |refine b8 (wpAny_typeNameOfWhole_keyiter hit.typeIs (b9 ?_))|refine b8 (wpAny_typeNameOf_keyiter hit.typeIs (b9 ?_))
 show wpAny _ _ (setField (.ref it) 0 .none >>= _) _ _ s;refine b8 (wpAny_setField ho hd (by simp) ?_);show wpAny _ _ (newExc (.type "StopIteration") [] >>= _) _ _ _;refine b8 ?_;simp only[newExc,newTuple];refine b8 (wpAny_newObj_type ?_ (by size_fits));refine b8 (m:=firstArgMember _ _) (wpAny_of_eq (a:=Value.none) (by first |rfl|(simp only[firstArgMember];rfl)) ?_);refine wpAny_newObj_type ?_ (by size_fits);simp only[raiseNew];refine b8 (wpAny_handled ?_);rw[show A.in1.handled=none from hh];refine b8 (b9 (wpAny_throw ?_));refine b8 (wpAny_isInstance (T:="StopIteration") (b:=true) ⟨_,cu _ rfl,rfl⟩ isSubtype_stop ?_);exact b9 (hQ _ (((Heap.SameBut.update ..).extBut.push _).push _))
end
def aA4{κ:Type}{d_:List (κ×V)}{vs:List (κ×Value)}(h:KV d_ vs):∀{i:Nat} {k:κ} {v:V},d_[i]? =some (k,v)->∃u,vs[i]? =some (k,u)/\RelV v u:=by
 unfold KV at h
 induction h with
 |nil=>intro i k v e;simp at e
 |@cons a b l₁ l₂ r t ih=>
  intro i k v e;cases i with
  |zero=>
   simp only[List.getElem?_cons_zero,Option.some.injEq]at e;subst e;refine⟨b.2,?_,r.2⟩;simp only[List.getElem?_cons_zero];exact cI some (Prod.ext r.1.symm rfl)
  |succ j=>
   simp only[List.getElem?_cons_succ]at e ⊢;exact ih e
def aa0{k:Key}{u:Value}(h:qx k u=true):RelV (kV k) u:=by
 rcases pZ h with⟨i,t,rfl,rfl⟩|⟨x,t,rfl,rfl⟩
 .exact⟨t,rfl⟩
 .exact⟨t,rfl⟩
def MO{o:Obj}{es vf:Array DictEntry}{ep rT:Nat}(h:o.data= .dict es ep)(h':o.data= .dict vf rT):vf=es/\rT=ep:=by
 rw[h]at h';cases h';exact⟨rfl,rfl⟩
def tZ(K:b6)(a:Addr):It:=
 ⟨λi H=>∃(xs:List V) (x:V),cU K H a xs/\xs[i]? =some x,λi H v H'=>∃T x,v= .ref T/\H T=none/\H'=upd H T (.tup [.int (i:Nat),x])/\∀xs,cU K H a xs->xs[i]? =some x,λi H=>∃xs:List V,cU K H a xs/\xs.length<=i⟩
def YJ{P:Program}{w:World}{K:b6}{elts:List Expr}{kk:Nat}{sS:Pos}(a e it:Addr):
  Turn P w K (.Tuple elts kk sS) (tZ K a) [e,it] e (λi h=>(∃old,IsEnum h e it ((i:Nat):Int) old)/\h.IsListIter it a i/\e≠it) where
 mem:=by simp
 obj:=λi h st b hb=>by
  obtain⟨⟨old,he⟩,⟨o,ho,hc,hd⟩,_⟩:=st;have e':b=e\/b=it:=by simpa using hb
  rcases e' with z|z
  .rw[z];exact⟨_,he,λv q=>nomatch q⟩
  .rw[z];exact⟨o,ho,λv q=>by rw[hd]at q;cases q⟩
 keep:=λi h h' st k=>let⟨⟨old,he⟩,hi,dR⟩:=st;⟨⟨old,k e (by simp) _ he⟩,hi.at λo q=>k it (by simp) o q,dR⟩
 item:=by
  intro X hP hw hK hc i pins s σ H E I hf st hg;subst hP hw hK;obtain⟨⟨old,he⟩,hit,dR⟩:=st;obtain⟨xs,x,hq,hx⟩:=hg;obtain⟨c7,rv,p,hz⟩:=I.list hq;obtain⟨u,hu,ru⟩:=rv.get hx;have SM:e<s.heap.objs.size:=cj he;have gv:it<s.heap.objs.size:=by obtain⟨_,q,_⟩:=hit;exact cj q
  refine wpAny_pyNext_enum_item he hit p.isList (x:=u) (by simpa using hu) dR λh' ho aO7 hT hsz hk=>?_;refine⟨_,rfl,wpAny_letOwnedTupleGo_enum (s:={s with heap:=h',toks:=s.toks+1}) ho λCU he' sb=>?_⟩;have Ic:CU.get? s.heap.objs.size=some {cls:=.type "tuple",data:=.seq #[.int i s.toks,u]}:=(sb.2 _ (Nat.ne_of_gt SM)).trans hT;have new:ji X.prog X.w (upd H s.heap.objs.size (.tup [.int (i:Nat),x])) CU s.heap.objs.size (.tup [.int (i:Nat),x]):=
   ⟨by show 2<=sizeLine;decide,[.int i s.toks,u],.cons ⟨_,rfl⟩ (.cons ru .nil),⟨_,Ic,rfl,_,rfl⟩⟩
  have I1:Inv X pins σ (upd H s.heap.objs.size (.tup [.int (i:Nat),x])) {s with heap:=CU,toks:=s.toks+1}:=
   I.Kz (ch:=[e,it]) (λb ob hb q=>(sb.2 b (λz=>hb (by simp[z]))).trans (hk b ob (λz=>hb (by simp[z])) (λz=>hb (by simp[z])) q)) hf (aI _) new
  refine⟨.ref s.heap.objs.size,_,I1,rfl,⟨_,x,rfl,I.hok.fresh (aI _),rfl,λys hy=>by rw[I.LB hy hq];exact hx⟩,⟨⟨u,?_⟩,aO7.at λo q=>(sb.2 it (cH dR)).trans q,dR⟩,λb hb=>?_⟩
  .have e1:((i+1:Nat):Int)=(i:Int)+1:=();rw[e1];exact he'
  .have zQ:b<s.heap.objs.size:=by
    have e':b=e\/b=it:=by simpa using hb
    rcases e' with z|z
    .rw[z];exact SM
    .rw[z];exact gv
   rw[eK (b5 zQ)];exact(hf b hb).1
 done:=by
  intro X hP hw hK hc i pins s σ H E I hf st hg;subst hP hw hK;obtain⟨⟨old,he⟩,hit,dR⟩:=st;obtain⟨xs,hq,hx⟩:=hg;obtain⟨c7,rv,p,hz⟩:=I.list hq;obtain⟨f0,f1,f2,f3,f4,f5⟩:=hf it (by simp);have hl:=rv.length;exact wpAny_pyNext_enum_end (I.ok.hd hc) he hit p.isList (by simp;lia) λh' eb=>⟨rfl,I.turned (t':=s.toks) (λb o hb q=>eb b o hb q) f0 f1 f3 f4 f5⟩
 self:=λA i s Q E st h=>let⟨⟨_,he⟩,_⟩:=st;wpAny_pyIter_enum he h
inductive am9(K:b6)(R:It->Hp->Prop)(vs:List V)(H1:Hp):Prop|m(a xs)(_:vs=[.ref a])(_:cU K H1 a xs)(_:R (tZ K a) H1)
def aH5(K:b6)(ta:TA):TI:=λσ H R=>ta σ H λvs H1=>am9 K R vs H1
def vP{X:Cx}{e:Expr}{ta:TA}{p pos sS:Pos}{elts:List Expr}{kk:Nat}(hg:Gl X "enumerate")(hm:X.mg "enumerate"=none)(ha:PA X [e] ta)(hs:starEach [e] X.env=[(false,eval e X.env)]:=by rfl):
  PI X (.Tuple elts kk sS) (.Call (.Name "enumerate" p) [e] [] pos) (aH5 X.K ta):=by
 intro pins s σ H R I h;refine Call_ (yu I hg hm boot_enumerate (PyProof.Rows.callWith_type1 (dY (ha pos pins s σ H _ I h) λus s1 ⟨vs,H1,I1,r1,q1⟩=>?_) hs rfl));obtain⟨a,xs,ex,hq,q⟩:=q1;subst ex;cases r1 with
 |cons r rr=>
  cases rr;cases r;obtain⟨c7,rv,p',hz⟩:=I1.list hq;refine call_enumerate_list p'.isList λh' he hit hsz hk=>wpAny_pyIter_enum he ?_;have I2:Inv X pins σ H1 {s1 with heap:=h'}:=I1.kept (t':=s1.toks) hk;refine⟨s1.heap.objs.size+1,[s1.heap.objs.size+1,s1.heap.objs.size],_,_,H1,rfl,I2,YJ a (s1.heap.objs.size+1) s1.heap.objs.size,⟨⟨.none,he⟩,hit,Nat.succ_ne_self _⟩,λb hb=>?_,q⟩;have e':b=s1.heap.objs.size+1\/b=s1.heap.objs.size:=by simpa using hb
  have hle:s1.heap.objs.size<=b:=by
   rcases e' with z|z
   .rw[z];exact Nat.le_add_right _ _
   .rw[z];exact aI _
  exact I1.sW hle (I1.hok.fresh hle)
end L2
section
namespace aR8
open PySem PyProof.Rows
end aR8
end
section
namespace TL
open PySem PySem.Builtin PySem.Builtin.Str PySem.StrLaws
end TL
end
namespace L2
open PySem PySem.Spec PyProof.Rows
section
variable {X:Cx}{o e:Expr}{to te:TE}
def tM1(r:V->List V->Hp->VK->Prop)(to te:TE):TE:=λσ H Q=>to σ H λx H1=>(∃a,x= .str a)/\te σ H1 λy H2=>r x [y] H2 Q
def aF9{id:String}{name:Str}{apos pos:Pos}{r:V->List V->Hp->VK->Prop}(slot:Slot "str" name id)(ty:typeOf (.builtin id)=pure (.type "method_descriptor"))(rule:xM X id r)(ho:PE X o to)(he:PE X e te)
  (hs:starEach [e] X.env=[(false,eval e X.env)]:=by rfl)(oN:attributeBase o name X.env (eval o X.env)=eval o X.env:=by rfl)(yH:(apos.endLine==pos.line)=true:=by rfl):
  PE X (.Call (.Attribute o name apos) [e] [] pos) (tM1 r to te):=by
 intro pins s σ H Q I h;refine PySem.Call_method1 oN hs yH (dY (ho pins s σ H _ I h) λv s1 ⟨x,H1,I1,r1,q1⟩=>?_);obtain⟨⟨a,rfl⟩,q1⟩:=q1;obtain⟨t,rfl⟩:=_root_.id r1;refine⟨"str",_,F.plainAttrs_str,slot,ty,typeIs_str _ _ _,(λ_ e=>nomatch e),Calls.callWith_builtin rfl (Calls.evalArgs_plain (Calls.spliced_cons ?_))⟩;exact dY (he pins s1 σ H1 _ I1 q1) λu s2 ⟨y,H2,I2,r2,q2⟩=>Calls.spliced_nil (rule pins s2 σ H2 _ [y] _ [u] Q I2 r1 (.cons r2 .nil) q2)
end
def IsPart.raw{v:Value}{o:Option Int}(p:IsPart v o):∃l:Option (Int×Tok),v=partValue l/\l.map (·.1)=o:=by
 cases p with
 |none=>exact⟨none,rfl,rfl⟩
 |int i t=>exact⟨some (i,t),rfl,rfl⟩
def yL(n d:Nat):Option Int->Int
 |none=>(d:Int)
 |some i=>max 0 (min (if i<0 then i+(n:Int)else i) (n:Int))
def L1(n d:Nat)(o:Option Int):yL n d o=((HT.e9 n d o:Nat):Int):=by
 cases o with
 |none=>rfl
 |some v=>
  show max (0:Int) (min (if v<0 then v+(n:Int)else v) (n:Int))=(((if v<0 then(v+(n:Int)).toNat else min v.toNat n):Nat):Int)
  by_cases hv:v<0
  .simp only[ah hv];lia
  .simp only[aa hv];lia
def YO(a b:Option Int)(n:Nat):Builtin.Str.strSliceIndices a b 1 n=sliceRange (yL n 0 a) (yL n n b) 1:=by
 have h1:((1:Int)>0)=True:=by simp
 cases a<;>cases b<;>first
  |rfl
  |(simp only[Builtin.Str.strSliceIndices,yL,h1,if_true];rfl)
  |simp[Builtin.Str.strSliceIndices,yL]
def aK6(a b:Option Int)(n:Nat):Builtin.Str.strSliceIndices a b 1 n=(List.range (HT.e9 n n b-HT.e9 n 0 a)).map (λk=>HT.e9 n 0 a+k):=by
 rw[YO,L1,L1];generalize HT.e9 n 0 a=p;generalize HT.e9 n n b=q;simp only[sliceRange,show((1:Int)>0)=True from by simp,if_true]
 by_cases eF:(p:Int)<q
 .have e3:(((q:Int)-p+1-1)/1).toNat=q-p:=by first |lia|(simp;done)|(simp;lia)
  simp only[eF,if_true,e3];refine cC λk _=>?_;lia
 .have:q-p=0:=();simp[eF,this]
def qF(z:Str)(lo hi:Option Int):Str:=
 ⟨((z.cps.toList.drop (HT.e9 z.length 0 lo)).take (HT.e9 z.length z.length hi-HT.e9 z.length 0 lo)).toArray⟩
def Jm(z:Str)(lo hi:Option Int):PySem.StrLaws.sliceText z lo hi=qF z lo hi:=by
 have h1:HT.e9 z.length 0 lo<=z.length:=HT.NK _ _ (aP _) _;have h2:HT.e9 z.length z.length hi<=z.length:=HT.NK _ _ (aI _) _;have hp:HT.e9 z.length 0 lo<=max (HT.e9 z.length 0 lo) (HT.e9 z.length z.length hi):=Nat.le_max_left _ _;have hq:max (HT.e9 z.length 0 lo) (HT.e9 z.length z.length hi)<=z.length:=Nat.max_le.mpr ⟨h1,h2⟩;have hd:max (HT.e9 z.length 0 lo) (HT.e9 z.length z.length hi)-HT.e9 z.length 0 lo=HT.e9 z.length z.length hi-HT.e9 z.length 0 lo:=();have e:Builtin.Str.strSliceIndices lo hi 1 z.length=
   Builtin.Str.strSliceIndices (some ((HT.e9 z.length 0 lo:Nat):Int)) (some ((max (HT.e9 z.length 0 lo) (HT.e9 z.length z.length hi):Nat):Int)) 1 z.length:=by
  rw[PySem.StrLaws.strSliceIndices_plain hp hq,hd,aK6]
 have e2:PySem.StrLaws.sliceText z lo hi=
   PySem.StrLaws.sliceText z (some ((HT.e9 z.length 0 lo:Nat):Int)) (some ((max (HT.e9 z.length 0 lo) (HT.e9 z.length z.length hi):Nat):Int)):=by
  unfold PySem.StrLaws.sliceText;rw[e]
 rw[e2,PySem.StrLaws.sliceText_nat z hp hq,hd];rfl
def XG(z:Str)(lo hi:Option Int):(qF z lo hi).length<=z.length:=by
 show(((z.cps.toList.drop (HT.e9 z.length 0 lo)).take (HT.e9 z.length z.length hi-HT.e9 z.length 0 lo)).toArray).size<=z.cps.size;rw[bQ,aW,aQ,bR];lia
inductive Rq(x:V)(lo:Option Int)(hi:Option Int)(H:Hp)(Q:VK):Prop|m(z)(_:x= .str z)(_:z.length<=sizeLine)(_:Q (.str (qF z lo hi)) H)
def Fp{X:Cx}:IF X Rq:=by
 intro pins s σ H x v vl vu lo hi sl Q I rx hs pl pu h;obtain⟨z,rfl,hz,q⟩:=h;obtain⟨t,rfl⟩:=rx;obtain⟨os,hos,h_,hds⟩:=hs;obtain⟨l,rfl,rfl⟩:=IsPart.raw pl;obtain⟨u,rfl,rfl⟩:=IsPart.raw pu;refine⟨"str",_,F.slot_str_getitem.lookup,typeIs_str _ _ _,?_⟩;refine wpAny_getItem_str_slice (l:=l) (u:=u) (st:=none) ⟨os,hos,h_,hds⟩ rfl ?_;have hl:(PySem.StrLaws.sliceText z (l.map (·.1)) (u.map (·.1))).length<=sizeLine:=by
  rw[Jm];exact aV (XG z _ _) hz
 rw[<-Jm]at q;unfold PySem.StrLaws.sliceText at q hl;show Made.post (if((1:Int)==1&&(Builtin.Str.strSliceIndices (l.map (·.1)) (u.map (·.1)) 1 z.length).length==z.length)=true then Made.val (.str z t)
  else Made.str ⟨((Builtin.Str.strSliceIndices (l.map (·.1)) (u.map (·.1)) 1 z.length).filterMap (z.cps[·]?)).toArray⟩) (EP X pins σ Q) s
 by_cases c:((1:Int)==1&&(Builtin.Str.strSliceIndices (l.map (·.1)) (u.map (·.1)) 1 z.length).length==z.length)=true
 .rw[ah c]at q ⊢;exact⟨.str z,H,I,⟨t,rfl⟩,q⟩
 .rw[aa c]at q hl ⊢;exact⟨hl,.str _,H,I.tok _,⟨_,rfl⟩,q⟩
end L2
namespace Att
open PySem PySem.W PySem.Calls PyProof.Rows
end Att
namespace L2
open PySem PySem.Spec PyProof.Rows
def inClass(s:Stmt)(j:Nat):Stmt:=match s with
 | .ClassDef _ _ _ body _ _ _ _ _ _ _=>body.getD j (.Pass ⟨0,0,0,0⟩)
 |_=>.Pass ⟨0,0,0,0⟩
def qj(s:Stmt):Arguments:=match s with
 | .FunctionDef _ a _ _ _ _ _ _ _ _=>a
 |_=>{posonlyargs:=[],args:=[],vararg:=none,kwonlyargs:=[],kw_defaults:=[],kwarg:=none,defaults:=[]}
def gH(s:Stmt):List Stmt:=match s with
 | .FunctionDef _ _ b _ _ _ _ _ _ _=>b
 |_=>[]
def c9(s:Stmt):Scope:=match s with
 | .FunctionDef _ _ _ _ _ _ sc _ _ _=>sc
 |_=>{kind:=.function,names:=[],isGenerator:=false,isCoroutine:=false}
abbrev cY:jx:=λ_ _ _ _ _ _=>False
abbrev E0:XK:=λ_ _ _=>False
def Qe{X:Cx}:Passes cY X E0:=λ_ _ _ _ _ _ _ h=>h.elim
structure dM(K:b6)(x qual:Str)(st:Stmt)(f:Addr)(fd:FuncData):Prop where
 ex:∃(oc:Value) (od:Option Addr) (kV doc pm:Value) (an:Option Addr) (c8 ct:Value) (jU:Array (Option Value)),
  fd=fnOf x qual (qj st) (gH st) (c9 st) .none kV doc pm an c8 ct/\K.lookup f=some ⟨oc,od,.func fd,jU⟩/\codeIn K c8 qual=true
 kp:keepIn K (.ref f)=true
section
variable {P:Program}{w:World}{K:b6}{mg:Str->Option Value}{base:Heap}
def dM.ok{x qual:Str}{st:Stmt}{f:Addr}{fd:FuncData}{N ps:List Str}{k:Nat}{sp:Sp}(F:dM K x qual st f fd)(S:dP N ps (c9 st))(len:∀vs H Q E,sp vs H Q E->vs.length=ps.length)
  (rA:∀(c8:Value) (A:Around) (outer:List Env) (s:Shared) (H:Hp) (vs:List V) (Q:VK) (E:XK),gU k (A.deeper (envOfC qual (c9 st) s.heap.objs.size f c8))->sp vs H Q E->
   ∃t,gb (gJ cY P w K mg base N qual (c9 st) f c8 A outer s H E).jV (gH st) t/\t {nx:=λ_ H'=>Q .dI H',rt:=Q} (start N vs) H):dJ P w K mg base cY (k+1) f fd ps sp:=by
 obtain⟨oc,od,kV,doc,pm,an,c8,ct,jU,rfl,lk,lX⟩:=F.ex;refine Qq lk lX S len λA outer s H vs Q E hr nU=>?_;obtain⟨t,h,q⟩:=rA c8 A outer s H vs Q E hr nU;exact⟨t,h.jV,q⟩
def dM.oK{x qual:Str}{st:Stmt}{f:Addr}{fd:FuncData}{N ps:List Str}{k:Nat}{sp:Sp}(F:dM K x qual st f fd)(S:dP N ps (c9 st))
  (rA:∀(c8:Value) (A:Around) (outer:List Env) (s:Shared) (H:Hp) (vs:List V) (Q:VK) (E:XK),gU k (A.deeper (envOfC qual (c9 st) s.heap.objs.size f c8))->sp vs H Q E->
   ∃t,gb (gJ cY P w K mg base N qual (c9 st) f c8 A outer s H E).jV (gH st) t/\t {nx:=λ_ H'=>Q .dI H',rt:=Q} (start N vs) H)(len:∀vs H Q E,sp vs H Q E->vs.length=ps.length:=by exact ∅):dJ P w K mg base cY (k+1) f fd ps sp:=F.ok S len rA
def dM.binds{x qual:Str}{st:Stmt}{f:Addr}{fd:FuncData}{ps:List Str}(F:dM K x qual st f fd)
  (h:∀(kV doc pm:Value) (an:Option Addr) (c8 ct:Value) (us:List Value),us.length=ps.length->bindArgs (fnOf x qual (qj st) (gH st) (c9 st) .none kV doc pm an c8 ct) ⟨us,[]⟩=pure (ps.zip us)):Binds K fd ps []:=by
 obtain⟨oc,od,kV,doc,pm,an,c8,ct,jU,rfl,lk,lX⟩:=F.ex;exact .all (h kV doc pm an c8 ct)
def BC{x qual:Str}{st:Stmt}{f:Addr}{oc:Value}{od an:Option Addr}{jU:Array (Option Value)}{kV doc pm c8 ct:Value}(l:K.lookup f=some ⟨oc,od,.func (fnOf x qual (qj st) (gH st) (c9 st) .none kV doc pm an c8 ct),jU⟩)
  (c:codeIn K c8 qual=true)(k:keepIn K (.ref f)=true):dM K x qual st f (fnOf x qual (qj st) (gH st) (c9 st) .none kV doc pm an c8 ct):=⟨⟨oc,od,kV,doc,pm,an,c8,ct,jU,rfl,l,c⟩,k⟩
end
def D_{n:Nat}(h:n<=1000):n<sizeLine:=bB h ()
section
variable {X:Cx}
def pv(i:Nat){x:Str}{pos:Pos}(hN:X.N[i]? =some x:=by rfl)(hv:xJ X.env.scope x:=by exact ∅)(hd:(x==("__debug__":Str))=false:=by decide)
  (lX:(x==("__classdict__":Str))=false:=by decide):PE X (.Name x pos) (iL i):=au7 hN hv hd lX
end
def dB{A B:Prop}(h:B):if false=true then A else B:=by
 rw[aa a_];exact h
def dZ{A B:Prop}(h:A):if true=true then A else B:=by
 rw[ah rfl];exact h
def dw{c A B:Prop}[Decidable c](h1:c->A)(h2:¬c->B):if c then A else B:=by
 by_cases h:c
 .rw[ah h];exact h1 h
 .rw[aa h];exact h2 h
def cR(H H':Hp):Prop:=∀b o,H b=some o->H' b=some o
def cR.refl(H:Hp):cR H H:=λ_ _ h=>h
def cR.trans{H H1 H2:Hp}(a:cR H H1)(b:cR H1 H2):cR H H2:=λc o h=>b c o (a c o h)
def cR.free{H H':Hp}(e:cR H H'){l:Addr}(h:H' l=Option.none):H l=Option.none:=by
 cases q:H l with
 |none=>rfl
 |some o=>
  rw[e l o q]at h;cases h
def cR.seq{K:b6}{H H':Hp}{a:Addr}{xs:List V}(e:cR H H')(h:cU K H a xs):cU K H' a xs:=by
 rcases h with(h|⟨o,h⟩)|h
 .exact .inl (.inl (e _ _ h))
 .exact .inl (.inr ⟨o,e _ _ h⟩)
 .exact .inr h
def at_of{xs:List V}{z:Int}{j:Nat}{v:V}(e:z=(j:Int))(h:xs[j]? =some v):lY xs z=some v:=by
 rw[e];exact eV h
end L2
section
namespace L2
open PySem PySem.Spec PyProof.Rows
open PySem.W (WData Codec OpenSpec Well WellAll ReadsW ReadsAllW)
mutual
inductive Dw(K:b6)(H:Hp):V->WData->Prop
 |dI:Dw K H .dI .none
 |bl (b:Bool):Dw K H (.bl b) (.bool b)
 |int (i:Int):Dw K H (.int i) (.int i)
 |str (x:Str):Dw K H (.str x) (.str x)
 |kJ (b:Array UInt8):Dw K H (.kJ b) (.bytes b.toList)
 |lst {a:Addr} {xs:List V} {ds:List WData}:cU K H a xs->nF K H xs ds->Dw K H (.ref a) (.list ds)
 |tup {a:Addr} {xs:List V} {ds:List WData}:e_ K H a xs->nF K H xs ds->Dw K H (.ref a) (.tuple ds)
inductive nF(K:b6)(H:Hp):List V->List WData->Prop
 |nil:nF K H [] []
 |cons {v:V} {vs:List V} {d:WData} {ds:List WData}:Dw K H v d->nF K H vs ds->nF K H (v::vs) (d::ds)
end
theorem MN{K:b6}{H:Hp}:∀ns:List Int,nF K H (ns.map V.int) (ns.map WData.int)
 |[]=>.nil
 |n::r=>.cons (.int n) (MN r)
theorem E8{K:b6}{H:Hp}:∀(ns:List Int) (xs:List V),nF K H xs (ns.map WData.int)->xs=ns.map V.int
 |[],xs,h=>by
  cases h;rfl
 |n::r,xs,h=>by
  cases h with
  |cons h1 h2=>
   cases h1;rw[E8 r _ h2]<;>rfl
section
variable {P:Program}{w:World}{K:b6}{H:Hp}{h:Heap}{R:WRecords}{cl:Str->Option Addr}
def as3{a:Addr}{xs:List V}(hok:gw P w H h)(KX:K.In h)(q:cU K H a xs):∃(c7:List Value) (o:Obj) (n:Nat),Vals xs c7/\h.get? a=some o/\o.cls= .type "list"/\o.data= .seq c7.toArray n:=by
 rcases q with q|⟨o,c7,n,e,hc,_,hd,_,hv⟩
 .obtain⟨_,c7,n,hv,e⟩:=(show ji P w H h a (.lst xs)from q.ok hok);exact⟨c7,_,n,hv,e,rfl,rfl⟩
 .exact⟨c7.toList,o,n,hv,KX _ _ e,hc,by simp[hd]⟩
def ar9{a:Addr}{xs:List V}(hok:gw P w H h)(KX:K.In h)(q:e_ K H a xs):∃(c7:List Value) (o:Obj) (n:Nat),Vals xs c7/\h.get? a=some o/\o.cls= .type "tuple"/\o.data= .seq c7.toArray n:=by
 rcases q with q|⟨o,c7,n,e,hc,hd,_,hv⟩
 .obtain⟨_,c7,hv,o,e,hc,n,hd⟩:=(show ji P w H h a (.tup xs)from q.ok hok);exact⟨c7,o,n,hv,e,hc,hd⟩
 .exact⟨c7.toList,o,n,hv,KX _ _ e,hc,by simp[hd]⟩
mutual
theorem Dw.reads(hok:gw P w H h)(KX:K.In h):∀(d:WData) (v:V) (u:Value),Dw K H v d->RelV v u->∃as,ReadsW R cl h u d as
 | .none,_,_,x,r=>by
  cases x;cases r;exact⟨_,ReadsW.none⟩
 | .bool b,_,_,x,r=>by
  cases x;cases r;exact⟨_,ReadsW.bool b⟩
 | .int i,_,_,x,r=>by
  cases x;obtain⟨t,rfl⟩:=r;exact⟨_,ReadsW.int i t⟩
 | .str s,_,_,x,r=>by
  cases x;obtain⟨t,rfl⟩:=r;exact⟨_,ReadsW.str s t⟩
 | .bytes b,_,_,x,r=>by
  cases x;obtain⟨t,rfl⟩:=r;exact⟨_,ReadsW.bytes _ t⟩
 | .list ds,_,_,x,r=>by
  cases x with
  |lst hs ha=>
   cases r;obtain⟨c7,o,n,rv,ho,hc,hd⟩:=as3 hok KX hs;obtain⟨as,hr⟩:=Dw.readsAll hok KX ds _ c7 ha rv;exact⟨_,ReadsW.list ho hc hd hr⟩
 | .tuple ds,_,_,x,r=>by
  cases x with
  |tup hs ha=>
   cases r;obtain⟨c7,o,n,rv,ho,hc,hd⟩:=ar9 hok KX hs;obtain⟨as,hr⟩:=Dw.readsAll hok KX ds _ c7 ha rv;exact⟨_,ReadsW.tuple ho hc hd hr⟩
 | .float _,_,_,x,_=>by cases x
 | .dict _,_,_,x,_=>by cases x
 | .bytearray _,_,_,x,_=>by cases x
 | .set _,_,_,x,_=>by cases x
 | .frozenset _,_,_,x,_=>by cases x
 | .obj _ _,_,_,x,_=>by cases x
theorem Dw.readsAll(hok:gw P w H h)(KX:K.In h):∀(ds:List WData) (vs:List V) (us:List Value),nF K H vs ds->Vals vs us->∃as,ReadsAllW R cl h us ds as
 |[],_,_,x,r=>by
  cases x;cases r;exact⟨_,ReadsAllW.nil⟩
 |d::ds,_,_,x,r=>by
  cases x with
  |cons h1 h2=>
   cases r with
   |cons r1 r2=>
    obtain⟨as,q1⟩:=Dw.reads hok KX d _ _ h1 r1;obtain⟨bs,q2⟩:=Dw.readsAll hok KX ds _ _ h2 r2;exact⟨_,ReadsAllW.cons q1 q2⟩
end
end
mutual
def lT:WData->Bool
 | .none=>true
 | .bool _=>true
 | .int _=>true
 | .str _=>true
 | .bytes _=>true
 | .list xs=>nO xs
 | .tuple xs=>nO xs
 |_=>false
def nO:List WData->Bool
 |[]=>true
 |x::r=>lT x&&nO r
end
theorem Lv{α:Type}{f:α->WData}(h:∀a,lT (f a)=true):∀l:List α,nO (l.map f)=true
 |[]=>rfl
 |x::r=>by
  show(lT (f x)&&nO (r.map f))=true;rw[h x,Lv h r]<;>rfl
theorem sF:∀(c:Codec) (a:c.denote),lT (c.enc a)=true
 | .unit,_=>rfl
 | .bool,_=>rfl
 | .int _ _,_=>rfl
 | .nat _ _,_=>rfl
 | .u8,_=>rfl
 | .bytes _ _,_=>rfl
 | .text _ _ _ _,_=>rfl
 | .list _ _ c,a=>Lv (λx=>sF c x) a
 | .pair c d,a=>by
  show(lT (c.enc a.1)&&(lT (d.enc a.2)&&true))=true;rw[sF c a.1,sF d a.2]<;>rfl
 | .triple c d e,a=>by
  show(lT (c.enc a.1)&&(lT (d.enc a.2.1)&&(lT (e.enc a.2.2)&&true)))=true;rw[sF c a.1,sF d a.2.1,sF e a.2.2]<;>rfl
 | .option c,none=>rfl
 | .option c,some x=>sF c x
theorem KI:∀(cs:List Codec) (a:Codec.denoteAll cs),nO (Codec.encAll cs a)=true
 |[],_=>rfl
 |c::cs,a=>by
  show(lT (c.enc a.1)&&nO (Codec.encAll cs a.2))=true;rw[sF c a.1,KI cs a.2]<;>rfl
theorem DT:∀{xs:List WData} {d:WData},d∈xs->d.weight<=WData.weightAll xs
 |[],d,h=>cJ h (by simp)
 |x::r,d,h=>by
  show d.weight<=x.weight+1+WData.weightAll r;rcases aN.mp h with e|m
  .rw[e];lia
  .have z:=DT m;lia
def toV:Value->V
 | .none=>.dI
 | .bool b=>.bl b
 | .int i _=>.int i
 | .str x _=>.str x
 | .bytes b _=>.kJ b
 | .ref a=>.ref a
 |_=>.dI
def mU(A:List Addr):Value->Prop
 | .none=>True
 | .bool _=>True
 | .int _ _=>True
 | .str _ _=>True
 | .bytes _ _=>True
 | .ref a=>a∈A
 |_=>False
def mU.mono{A B:List Addr}(h:∀a∈A,a∈B):∀{u:Value},mU A u->mU B u:=λ{u} x=>by
 cases u with
 |ref a=>exact h a x
 |none=>trivial
 |bool b=>trivial
 |int i t=>trivial
 |str s t=>trivial
 |bytes b t=>trivial
 |_=>exact False.elim x
def Z_{A:List Addr}{u:Value}(x:mU A u):RelV (toV u) u:=by
 cases u with
 |ref a=>rfl
 |none=>rfl
 |bool b=>rfl
 |int i t=>exact⟨t,rfl⟩
 |str s t=>exact⟨t,rfl⟩
 |bytes b t=>exact⟨t,rfl⟩
 |_=>exact False.elim x
theorem vG{A:List Addr}:∀{vs:List Value},(∀u∈vs,mU A u)->Vals (vs.map toV) vs
 |[],_=>.nil
 |u::r,h=>.cons (Z_ (h u (aB ..))) (vG λx hx=>h x (aA _ hx))
inductive nG(h:Heap)(A:List Addr)(a:Addr):Prop|m(vs:List Value)(_:vs.length<=sizeLine)(_:(∀u∈vs,mU A u))(_:(h.get? a=some {cls:=.type "list",data:=.seq vs.toArray}\/h.get? a=some {cls:=.type "tuple",data:=.seq vs.toArray}))
theorem nG.mono{h:Heap}{A B:List Addr}{a:Addr}(k:∀a∈A,a∈B)(x:nG h A a):nG h B a:=by
 obtain⟨vs,h1,h2,h3⟩:=x;exact⟨vs,h1,λu hu=>(h2 u hu).mono k,h3⟩
theorem An{P:Params}{h:Heap}:∀{vs:List Value} {ds:List WData},WellAll P h vs ds->vs.length=ds.length
 |_,_,.nil=>rfl
 |_,_,.cons _ b=>by
  show _+1=_+1;rw[An b]
def Ks{P:Params}{h:Heap}{v:Value}{ds:List WData}(x:Well P h v (.list ds)):∃(a:Addr) (vs:List Value),v= .ref a/\h.get? a=some {cls:=.type "list",data:=.seq vs.toArray}/\WellAll P h vs ds:=by
 cases x with
 |list ho kW=>exact⟨_,_,rfl,ho,kW⟩
def J2{P:Params}{h:Heap}{v:Value}{ds:List WData}(x:Well P h v (.tuple ds)):∃(a:Addr) (vs:List Value),v= .ref a/\h.get? a=some {cls:=.type "tuple",data:=.seq vs.toArray}/\WellAll P h vs ds:=by
 cases x with
 |tuple ho kW=>exact⟨_,_,rfl,ho,kW⟩
def Ku{P:Params}{h:Heap}{us:List Value}{d:WData}{ds:List WData}(x:WellAll P h us (d::ds)):∃(v:Value) (vs:List Value),us=v::vs/\Well P h v d/\WellAll P h vs ds:=by
 cases x with
 |cons a b=>exact⟨_,_,rfl,a,b⟩
def MD{n:Nat}(h:n<=1048576):n<=sizeLine:=aV h ()
section
variable {P:Params}{h:Heap}
mutual
theorem af2:∀(d:WData) (v:Value),Well P h v d->lT d=true->d.weight<=1048576->∃A:List Addr,mU A v/\∀a∈A,nG h A a
 | .none,_,x,_,_=>by
  cases x;exact⟨[],trivial,λa m=>cJ m (by simp)⟩
 | .bool b,_,x,_,_=>by
  cases x;exact⟨[],trivial,λa m=>cJ m (by simp)⟩
 | .int i,_,x,_,_=>by
  cases x;exact⟨[],trivial,λa m=>cJ m (by simp)⟩
 | .str s,_,x,_,_=>by
  cases x;exact⟨[],trivial,λa m=>cJ m (by simp)⟩
 | .bytes b,_,x,_,_=>by
  cases x;exact⟨[],trivial,λa m=>cJ m (by simp)⟩
 | .list ds,_,x,p,z=>by
  obtain⟨a,vs,rfl,ho,kW⟩:=Ks x;have z2:WData.weightAll ds<=1048576:=z;obtain⟨A,h1,h2⟩:=A4 ds _ kW p λd hd=>aV (DT hd) z2;have k:∀b∈A,b∈a::A:=λb hb=>aA _ hb;refine⟨a::A,aB ..,λb hb=>?_⟩;rcases aN.mp hb with e|m
  .rw[e];exact⟨vs,MD (by rw[An kW];exact aV (length_le_weightAllW ds) z2),λu hu=>(h1 u hu).mono k,.inl ho⟩
  .exact(h2 b m).mono k
 | .tuple ds,_,x,p,z=>by
  obtain⟨a,vs,rfl,ho,kW⟩:=J2 x;have z2:WData.weightAll ds<=1048576:=z;obtain⟨A,h1,h2⟩:=A4 ds _ kW p λd hd=>aV (DT hd) z2;have k:∀b∈A,b∈a::A:=λb hb=>aA _ hb;refine⟨a::A,aB ..,λb hb=>?_⟩;rcases aN.mp hb with e|m
  .rw[e];exact⟨vs,MD (by rw[An kW];exact aV (length_le_weightAllW ds) z2),λu hu=>(h1 u hu).mono k,.inr ho⟩
  .exact(h2 b m).mono k
 | .float _,_,_,p,_=>Bool.noConfusion (show false=true from p)
 | .dict _,_,_,p,_=>Bool.noConfusion (show false=true from p)
 | .bytearray _,_,_,p,_=>Bool.noConfusion (show false=true from p)
 | .set _,_,_,p,_=>Bool.noConfusion (show false=true from p)
 | .frozenset _,_,_,p,_=>Bool.noConfusion (show false=true from p)
 | .obj _ _,_,_,p,_=>Bool.noConfusion (show false=true from p)
theorem A4:∀(ds:List WData) (vs:List Value),WellAll P h vs ds->nO ds=true->(∀d∈ds,d.weight<=1048576)->∃A:List Addr,(∀u∈vs,mU A u)/\∀a∈A,nG h A a
 |[],_,x,_,_=>by
  cases x;exact⟨[],λu m=>cJ m (by simp),λa m=>cJ m (by simp)⟩
 |d::ds,_,x,p,z=>by
  obtain⟨v,vs,rfl,x1,x2⟩:=Ku x;have q:lT d=true/\nO ds=true:=cG.mp p;obtain⟨A,a1,a2⟩:=af2 d v x1 q.1 (z d (aB ..));obtain⟨B,b1,b2⟩:=A4 ds vs x2 q.2 λe he=>z e (aA _ he);have kA:∀b∈A,b∈A++B:=λb hb=>List.mem_append.mpr (.inl hb);have kB:∀b∈B,b∈A++B:=λb hb=>List.mem_append.mpr (.inr hb);refine⟨A++B,λu hu=>?_,λb hb=>?_⟩
  .rcases aN.mp hu with e|m
   .rw[e];exact a1.mono kA
   .exact(b1 u m).mono kB
  .rcases List.mem_append.mp hb with m|m
   .exact(a2 b m).mono kA
   .exact(b2 b m).mono kB
end
end
def B6(o:Obj):Option HO:=match o.data with
 | .seq vs _=>if(o.cls==Value.type "list")=true then some (.jo o (.lst (vs.toList.map toV)))else some (.jo o (.tup (vs.toList.map toV)))
 |_=>none
def ju(K:b6)(h:Heap)(A:List Addr):Hp:=λb=>if b∈A then(if(K.lookup b).isNone=true then(h.get? b).bind B6 else none)else none
def yN(H:Hp):Prop:=∀b,H b=none\/∃o u,H b=some (.jo o u)
def LJ(vs:List Value):B6 {cls:=.type "list",data:=.seq vs.toArray}=some (.jo {cls:=.type "list",data:=.seq vs.toArray} (.lst (vs.map toV))):=by
 show(if(Value.type "list"==Value.type "list")=true then some (HO.jo {cls:=.type "list",data:=.seq vs.toArray} (.lst (vs.toArray.toList.map toV)))else some (HO.jo {cls:=.type "list",data:=.seq vs.toArray} (.tup (vs.toArray.toList.map toV))))=_;rw[ah (beq_self_eq_true _)]
def LI(vs:List Value):B6 {cls:=.type "tuple",data:=.seq vs.toArray}=some (.jo {cls:=.type "tuple",data:=.seq vs.toArray} (.tup (vs.map toV))):=by
 show(if(Value.type "tuple"==Value.type "list")=true then some (HO.jo {cls:=.type "tuple",data:=.seq vs.toArray} (.lst (vs.toArray.toList.map toV)))else some (HO.jo {cls:=.type "tuple",data:=.seq vs.toArray} (.tup (vs.toArray.toList.map toV))))=_;rw[aa ()]
section
variable {P:Program}{w:World}{K:b6}{h:Heap}{A:List Addr}
def Br{b:Addr}{o:Obj}(hb:b∈A)(hk:K.lookup b=none)(e:h.get? b=some o):ju K h A b=B6 o:=by
 unfold ju;rw[ah hb,hk,ah (show(none:Option Obj).isNone=true from rfl),e]<;>rfl
def ak7{b:Addr}{u:HO}(q:ju K h A b=some u):b∈A/\K.lookup b=none:=by
 unfold ju at q
 by_cases hb:b∈A
 .rw[ah hb]at q;cases hk:K.lookup b with
  |none=>exact⟨hb,rfl⟩
  |some o=>
   rw[hk,aa (by simp)]at q;cases q
 .rw[aa hb]at q;cases q
def Bq(ar:∀a∈A,nG h A a){b:Addr}{u:HO}(q:ju K h A b=some u):K.lookup b=none/\∃vs:List Value,vs.length<=sizeLine/\(∀u∈vs,mU A u)/\
  ((h.get? b=some {cls:=.type "list",data:=.seq vs.toArray}/\u= .jo {cls:=.type "list",data:=.seq vs.toArray} (.lst (vs.map toV)))\/
   (h.get? b=some {cls:=.type "tuple",data:=.seq vs.toArray}/\u= .jo {cls:=.type "tuple",data:=.seq vs.toArray} (.tup (vs.map toV)))):=by
 obtain⟨hb,hk⟩:=ak7 q;obtain⟨vs,h1,h2,h3⟩:=ar b hb;refine⟨hk,vs,h1,h2,?_⟩;rcases h3 with e|e
 .rw[Br hb hk e,LJ]at q;exact .inl ⟨e,(aH q).symm⟩
 .rw[Br hb hk e,LI]at q;exact .inr ⟨e,(aH q).symm⟩
def ZI(ar:∀a∈A,nG h A a):yN (ju K h A):=λb=>by
 cases q:ju K h A b with
 |none=>exact .inl rfl
 |some u=>
  obtain⟨_,vs,_,_,⟨_,e⟩|⟨_,e⟩⟩:=Bq ar q
  .exact .inr ⟨_,_,by rw[e]⟩
  .exact .inr ⟨_,_,by rw[e]⟩
def aq1(ar:∀a∈A,nG h A a):gw P w (ju K h A) h:=λb u q=>by
 obtain⟨_,vs,h1,h2,⟨e,rfl⟩|⟨e,rfl⟩⟩:=Bq ar q
 .exact⟨e,by rw[az];exact h1,vs,_,vG h2,e⟩
 .exact⟨e,by rw[az];exact h1,vs,vG h2,_,e,rfl,_,rfl⟩
def A6{c c':Value}{vs us:List Value}(e:(some {cls:=c,data:=.seq vs.toArray}:Option Obj)=some {cls:=c',data:=.seq us.toArray}):c=c'/\vs=us:=by
 have e1:=aH e;have e2:c=c':=cI Obj.cls e1;have e3:Data.seq vs.toArray=Data.seq us.toArray:=cI Obj.data e1;injection e3 with e4
 refine⟨e2,?_⟩;have e5:=cI Array.toList e4;simpa using e5
def aR2(KX:K.In h)(ar:∀a∈A,nG h A a){a:Addr}{vs:List Value}(ha:a∈A)(e:h.get? a=some {cls:=.type "list",data:=.seq vs.toArray}):(∀u∈vs,mU A u)/\cU K (ju K h A) a (vs.map toV):=by
 obtain⟨us,h1,h2,h3⟩:=ar a ha;have hu:us=vs:=by
  rcases h3 with q|q
  .rw[e]at q;exact(A6 q).2.symm
  .rw[e]at q;exact cJ (Value.type.inj (A6 q).1) ()
 subst hu;refine⟨h2,?_⟩;cases hk:K.lookup a with
 |none=>exact .inl (.inr ⟨_,by rw[Br ha hk e,LJ]⟩)
 |some o=>
  have e2:=KX a o hk;rw[e]at e2;obtain rfl:=aH e2;exact .inr ⟨_,us.toArray,_,hk,rfl,rfl,rfl,by rw[bQ];exact h1,by simpa using vG h2⟩
def aR1(KX:K.In h)(ar:∀a∈A,nG h A a){a:Addr}{vs:List Value}(ha:a∈A)(e:h.get? a=some {cls:=.type "tuple",data:=.seq vs.toArray}):(∀u∈vs,mU A u)/\e_ K (ju K h A) a (vs.map toV):=by
 obtain⟨us,h1,h2,h3⟩:=ar a ha;have hu:us=vs:=by
  rcases h3 with q|q
  .rw[e]at q;exact cJ (Value.type.inj (A6 q).1) ()
  .rw[e]at q;exact(A6 q).2.symm
 subst hu;refine⟨h2,?_⟩;cases hk:K.lookup a with
 |none=>exact .inl (.inr ⟨_,by rw[Br ha hk e,LI]⟩)
 |some o=>
  have e2:=KX a o hk;rw[e]at e2;obtain rfl:=aH e2;exact .inr ⟨_,us.toArray,_,hk,rfl,rfl,by rw[bQ];exact h1,by simpa using vG h2⟩
mutual
theorem aC2{Pm:Params}(KX:K.In h)(ar:∀a∈A,nG h A a):∀(d:WData) (v:Value),Well Pm h v d->lT d=true->mU A v->Dw K (ju K h A) (toV v) d
 | .none,_,x,_,_=>by
  cases x;exact .dI
 | .bool b,_,x,_,_=>by
  cases x;exact .bl b
 | .int i,_,x,_,_=>by
  cases x;exact .int i
 | .str s,_,x,_,_=>by
  cases x;exact .str s
 | .bytes b,_,x,_,_=>by
  cases x;have z:=Dw.kJ (K:=K) (H:=ju K h A) b.toArray;exact z
 | .list ds,_,x,p,hu=>by
  obtain⟨a,vs,rfl,ho,kW⟩:=Ks x;obtain⟨h2,hs⟩:=aR2 KX ar hu ho;exact .lst hs (BD KX ar ds _ kW p h2)
 | .tuple ds,_,x,p,hu=>by
  obtain⟨a,vs,rfl,ho,kW⟩:=J2 x;obtain⟨h2,hs⟩:=aR1 KX ar hu ho;exact .tup hs (BD KX ar ds _ kW p h2)
 | .float _,_,_,p,_=>Bool.noConfusion (show false=true from p)
 | .dict _,_,_,p,_=>Bool.noConfusion (show false=true from p)
 | .bytearray _,_,_,p,_=>Bool.noConfusion (show false=true from p)
 | .set _,_,_,p,_=>Bool.noConfusion (show false=true from p)
 | .frozenset _,_,_,p,_=>Bool.noConfusion (show false=true from p)
 | .obj _ _,_,_,p,_=>Bool.noConfusion (show false=true from p)
theorem BD{Pm:Params}(KX:K.In h)(ar:∀a∈A,nG h A a):∀(ds:List WData) (vs:List Value),WellAll Pm h vs ds->nO ds=true->(∀u∈vs,mU A u)->nF K (ju K h A) (vs.map toV) ds
 |[],_,x,_,_=>by
  cases x;exact .nil
 |d::ds,_,x,p,hu=>by
  obtain⟨v,vs,rfl,x1,x2⟩:=Ku x;have q:lT d=true/\nO ds=true:=cG.mp p;exact .cons (aC2 KX ar d v x1 q.1 (hu _ (aB ..))) (BD KX ar ds vs x2 q.2 λu m=>hu u (aA _ m))
end
end
def YM{P:Program}{w:World}{K:b6}{mg mb:Str->Option Value}{CX:jx}{k:Nat}{fa:Addr}{fd:FuncData}{ps:List Str}{sp:Sp}{s₁:Shared}{vals:List Value}{ds:List WData}{R:WRecords}{cl:Str->Option Addr}{d0:WData}
  (KX:K.In s₁.heap)(SA:s₁.heap.Ns mainGlobals mg)(hb:s₁.heap.Ns builtinsNs mb)(hbb:∀x:Str,x≠"__name__"->mb x=bootBuiltins x)(aO0:s₁.heap.NoLimit)(hg:s₁.gens= #[])
  (nT:WellAll w.params s₁.heap vals ds)(fh:nO ds=true)(hwt:∀d∈ds,d.weight<=1048576)(hr:gU k callerA)
  (F:∀base:Heap,K.In base->base.Ns mainGlobals mg->dJ P w K mg base CX k fa fd ps sp)(aI1:∀(s:Shared) (us:List Value),us.length=ps.length->BindsTo s fd ⟨us,[]⟩ (ps.zip us))(hlen:ds.length=ps.length)
  (nU:∀(H:Hp) (xs:List V),yN H->nF K H xs ds->sp xs H (λv H'=>Dw K H' v d0) λ_ _ _=>False)
  (zW:∀H e s',CX [] H s₁ (λ_ _ _=>False) e s'->False):
  codeAny (model P w) callerA (.call (.ref fa) ⟨vals,[]⟩) (λr s'=>∃u as,r= .ok (.ret u)/\ReadsW R cl s'.heap u d0 as/\OldK s₁.heap s'.heap/\s'.os=s₁.os/\AllBare s'.gens) s₁:=by
 obtain⟨A,ho,ar⟩:=A4 ds vals nT fh hwt;have hO:yN (ju K s₁.heap A):=ZI ar;have hok:gw P w (ju K s₁.heap A) s₁.heap:=aq1 ar;have hS:=BD KX ar ds vals nT fh ho;have hV:=vG ho;have hK:∀b u,ju K s₁.heap A b=some u->K.lookup b=none:=λb u q=>(Bq ar q).1;have wY:∀{b:Addr} {o:Obj} {es:Array DictEntry} {ep:Nat},s₁.heap.get? b=some o->o.data= .dict es ep->ju K s₁.heap A b=none:=λ{b o es ep} e d=>by
  cases q:ju K s₁.heap A b with
  |none=>rfl
  |some u=>
   obtain⟨_,vs,_,_,⟨e2,_⟩|⟨e2,_⟩⟩:=Bq ar q
   .rw[e2]at e;cases e;have d':Data.seq vs.toArray _=Data.dict es ep:=d;cases d'
   .rw[e2]at e;cases e;have d':Data.seq vs.toArray _=Data.dict es ep:=d;cases d'
 generalize ju K s₁.heap A=H at hO hok hS hK wY;have MY:∀{b:Addr} {o:Obj},s₁.heap.get? b=some o->H b=none->(rF s₁.heap H).get? b=some o:=λe n=>ad7 e n;have Cm:∀{b:Addr} {m:Str->Option Value},s₁.heap.Ns b m->(rF s₁.heap H).Ns b m:=λ{b m} ⟨o,es,ep,e,d,r⟩=>⟨o,es,ep,MY e (wY e d),d,r⟩;have nK:∀b o,K.lookup b=some o->H b=none:=λb o e=>by
  cases q:H b with
  |none=>rfl
  |some u=>
   rw[hK b u q]at e;cases e
 have Td:K.In (rF s₁.heap H):=λb o e=>MY (KX b o e) (nK b o e);have hM:Mod K mg (rF s₁.heap H):=⟨Td,Cm SA,⟨mb,Cm hb,hbb⟩,let⟨mc,h1,h2⟩:=aO0;⟨mc,Cm h1,h2⟩⟩;have e0:uM P w K mg (rF s₁.heap H) callerA [] s₁ H:=⟨rfl,hM,λb o e=>ak6 e,Nat.le_of_eq (Zi _ _),trivial,λb hb=>cJ (show b∈([]:List Addr)from hb) (by simp),hok,.of_eq hg⟩;have hl:vals.length=ps.length:=by rw[An nT];exact hlen
 refine codeAny_mono ((F _ Td (Cm SA)).run callerA [] s₁ H ⟨vals,[]⟩ vals (vals.map toV) _ _ hr e0 (aI1 s₁ vals hl) hV (nU H _ hO hS)) λr s' x=>?_;cases r with
 |error e=>exact(zW H e s' x).elim
 |ok fl=>
  cases fl with
  |next=>exact False.elim x
  |brk=>exact False.elim x
  |cont=>exact False.elim x
  |ret u=>
   obtain⟨v,H',os,bare,un,RE,r',q⟩:=x;have kept:∀b o,s₁.heap.get? b=some o->s'.heap.get? b=some o:=λb o e=>by
    cases q2:H b with
    |none=>exact un.keep b o e q2 (by intro z;exact cJ (show b∈([]:List Addr)from z) (by simp)) (by simp)
    |some u2=>
     rcases hO b with z|⟨ob,u3,z⟩
     .rw[q2]at z;cases z
     .have z2:=un.qE b ob _ z;obtain⟨e1,_⟩:=hok b _ z;obtain⟨e2,_⟩:=RE b _ z2;rw[e]at e1;cases e1;exact e2
   have KX':K.In s'.heap:=λb o e=>kept b o (KX b o e);obtain⟨as,Sv⟩:=Dw.reads (R:=R) (cl:=cl) RE KX' d0 v u q r';exact⟨u,as,rfl,Sv,OldK.of_keep kept,os,bare⟩
def VJ{ds:List WData}(h:WData.layableAll ds=true):∀d∈ds,d.weight<=1048576:=λd hd=>
 (layableW_iff.mp (bg.mp h d hd)).2.2
theorem Kc:∀(cs:List Codec) (a:Codec.denoteAll cs),(Codec.encAll cs a).length=cs.length
 |[],_=>rfl
 |c::cs,a=>by
  show(Codec.encAll cs a.2).length+1=cs.length+1;rw[Kc cs a.2]
def YG{r:OpenSpec}{k:Nat}{q:Program}{loose:List Str}{XP:(Str->Option Value)->Heap->Prop}{YP:World->Heap->Prop}{d:DefRec}{K:Params->b6}{CX:World->jx}{ps:List Str}{sp:World->Sp}
  (Ge:r.wellSaid=true)(SO:d.params.defaults=[])(hlen:r.args.length=ps.length)(hr:gU k callerA)
  (hY:∀(w:World) (h:Heap),YP w h->(K w.params).In h)
  (F:∀(w:World) (mg:Str->Option Value) (fa:Addr) (h:Heap),YP w h->(K w.params).In h->h.Ns mainGlobals mg->mg d.name=some (.ref fa)->
   ∃fd:FuncData,(∀(s:Shared) (us:List Value),us.length=ps.length->BindsTo s fd ⟨us,[]⟩ (ps.zip us))/\
    ∀base:Heap,(K w.params).In base->base.Ns mainGlobals mg->dJ r.prog w (K w.params) mg base (CX w) k fa fd ps (sp w))
  (nU:∀(w:World) (H:Hp) (xs:List V) (a:Codec.denoteAll r.args),yN H->Codec.withinAll r.args a=true->Codec.app r.args r.asked a=true->nF (K w.params) H xs (Codec.encAll r.args a)->
   sp w xs H (λv H'=>Dw (K w.params) H' v (r.ret.enc (Codec.app r.args r.f a))) λ_ _ _=>False)
  (zW:∀(w:World) (H:Hp) (s:Shared) (e:Value) (s':Shared),CX w [] H s (λ_ _ _=>False) e s'->False):
  PySem.W.WalkOS q loose XP YP r d [] (λf vs=>PySem.call f vs):=by
 intro w iw s₁ mg mb G Y fa o pm cd doc dV kV ho hd lX hD HJ hg args vals as aM8 aO3 Sv nT hlo;obtain⟨a,e1,e2⟩:=os_pre_some aM8;obtain⟨e3,Hw⟩:=Codec.encAll_of_decAll r.args args a e1;subst e3;have KX:=hY w _ Y;obtain⟨fd,hb,hF⟩:=F w mg fa _ Y KX G.T.g HJ;refine enter_call (codeAny_mono (YM (R:=[]) (cl:=classAt iw.heap) (d0:=r.ret.enc (Codec.app r.args r.f a)) KX G.T.g G.T.b G.T.builtins G.T.nolimit hg nT (KI _ _) (VJ aO3) hr hF hb (by rw[Kc];exact hlen)
  (λH xs hO hS=>nU w H xs a hO Hw e2 hS) λH e s'=>zW w H s₁ e s') λr' s' hq=>?_)
 obtain⟨u,lZ,rfl,h1,h2,h3,h4⟩:=hq;exact⟨.inl ⟨u,_,lZ,rfl,λ_=>rfl,h1,(OpenSpec.post_iff Ge Hw _ _).mpr rfl,λz=>Bool.noConfusion (show false=true from z)⟩,h2,h3,h4⟩
def XY{r:OpenSpec}{k:Nat}{q:Program}{loose:List Str}{XP:(Str->Option Value)->Heap->Prop}{YP:World->Heap->Prop}{d:DefRec}{K:Params->b6}{CX:jx}{ps:List Str}{sp:b6->Sp}
  (Ge:r.wellSaid=true)(SO:d.params.defaults=[])(hlen:r.args.length=ps.length)(hr:gU k callerA)
  (hY:∀(w:World) (h:Heap),YP w h->(K w.params).In h)
  (F:∀(w:World) (mg:Str->Option Value) (fa:Addr) (h:Heap),YP w h->(K w.params).In h->h.Ns mainGlobals mg->mg d.name=some (.ref fa)->
   ∃fd:FuncData,(∀(s:Shared) (us:List Value),us.length=ps.length->BindsTo s fd ⟨us,[]⟩ (ps.zip us))/\
    ∀base:Heap,(K w.params).In base->base.Ns mainGlobals mg->dJ r.prog w (K w.params) mg base CX k fa fd ps (sp (K w.params)))
  (nU:∀(K:b6) (H:Hp) (xs:List V) (a:Codec.denoteAll r.args),yN H->Codec.withinAll r.args a=true->Codec.app r.args r.asked a=true->nF K H xs (Codec.encAll r.args a)->
   sp K xs H (λv H'=>Dw K H' v (r.ret.enc (Codec.app r.args r.f a))) λ_ _ _=>False)
  (zW:∀(H:Hp) (s:Shared) (e:Value) (s':Shared),CX [] H s (λ_ _ _=>False) e s'->False):
  PySem.W.WalkOS q loose XP YP r d [] (λf vs=>PySem.call f vs):=
 YG (K:=K) (CX:=λ_=>CX) (sp:=λw=>sp (K w.params)) Ge SO hlen hr hY F (λw H xs a h1 h2 h3 h4=>nU (K w.params) H xs a h1 h2 h3 h4) λ_ H s e s'=>zW H s e s'
structure Kept(M S:List Addr)(h h':Heap):Prop where
 keep:∀b o,h.get? b=some o->b∉M->b∉S->h'.get? b=some o
 slot:∀b o,h.get? b=some o->b∉M->b∈S->∃sl,h'.get? b=some {o with slots:=sl}
def Kept.refl(M S:List Addr)(h:Heap):Kept M S h h:=⟨λ_ _ e _ _=>e,λ_ o e _ _=>⟨o.slots,e⟩⟩
def Kept.any{M S:List Addr}{h h':Heap}(k:Kept M S h h'){b:Addr}{o:Obj}(e:h.get? b=some o)(hb:b∉M):∃sl,h'.get? b=some {o with slots:=sl}:=by
 by_cases hs:b∈S
 .exact k.slot b o e hb hs
 .exact⟨o.slots,k.keep b o e hb hs⟩
def Kept.trans{M M' S:List Addr}{h h1 h2:Heap}(a:Kept M S h h1)(b:Kept M' S h1 h2)(hm:∀c∈M',c∈M\/h.get? c=none):Kept M S h h2:=by
 have out:∀c o,h.get? c=some o->c∉M->c∉M':=λc o e n z=>(hm c z).elim n λq=>by rw[e]at q;cases q
 refine⟨λc o e n s=>b.keep c o (a.keep c o e n s) (out c o e n) s,λc o e n s=>?_⟩;obtain⟨sl,e1⟩:=a.slot c o e n s;obtain⟨wO,e2⟩:=b.slot c _ e1 (out c o e n) s;exact⟨wO,e2⟩
def Kept.mono{M M' S S':List Addr}{h h1:Heap}(a:Kept M S h h1)(hm:∀c∈M,c∈M')(hs:∀c∈S,c∈S'):Kept M' S' h h1:=
 ⟨λc o e n s=>a.keep c o e (λz=>n (hm c z)) λz=>s (hs c z),λc o e n _=>a.any e λz=>n (hm c z)⟩
def ji.there{P:Program}{w:World}{H:Hp}{h:Heap}{a:Addr}:∀{o:HO},ji P w H h a o->∃u,h.get? a=some u:=by
 intro o x;cases o with
 |lst xs=>obtain⟨_,_,_,_,e⟩:=x;exact⟨_,e⟩
 |tup xs=>obtain⟨_,_,_,o,e,_⟩:=x;exact⟨_,e⟩
 |dK d_=>obtain⟨_,_,_,_,o,_,_,e,_⟩:=x;exact⟨_,e⟩
 |dT d_=>obtain⟨_,_,_,_,o,_,_,e,_⟩:=x;exact⟨_,e⟩
 |set S n=>obtain⟨o,_,_,_,e,_⟩:=x;exact⟨_,e⟩
 |ins C dx fs=>obtain⟨_,_,_,e,_⟩:=x;exact⟨_,e⟩
 |own y=>obtain⟨_,e⟩:=x;exact⟨_,e⟩
 |xd fs=>obtain⟨_,⟨_,_,_,e,_⟩,_⟩:=x;exact⟨_,e⟩
 |Ck lo hi=>obtain⟨_,_,_,e⟩:=x;exact⟨_,e⟩
 |jo ob u=>obtain⟨e,_⟩:=x;exact⟨_,e⟩
 |sZ ps=>exact⟨_,(show h.get? a=some _ from x)⟩
 |met f y=>exact⟨_,(show h.get? a=some _ from x)⟩
 |ext φ=>obtain⟨_,e,_⟩:=x;exact e
def gw.through{P:Program}{w:World}{H:Hp}{h h':Heap}{M S:List Addr}(x:gw P w H h)(k:Kept M S h h')(hM:∀b∈M,H b=none)(hS:∀b∈S,H b=none):gw P w H h':=λa o e=>by
 have Cn:∀{l:List Addr},(∀b∈l,H b=none)->∀b u,H b=some u->b∉l:=λhl b u q z=>by rw[hl b z]at q;cases q
 refine(x a o e).stay (λb u hb q=>?_) (λ_ q=>q) λ_ _ q=>q;rcases hb with rfl|hb
 .exact k.keep b u q (Cn hM _ _ e) (Cn hS _ _ e)
 .exact k.keep b u q (Cn hM _ _ hb) (Cn hS _ _ hb)
def Un.through{fs ex:List Addr}{H0 H:Hp}{h0 h h':Heap}{M S:List Addr}(u:Un fs ex H0 H h0 h)(k:Kept M S h h')(hM:∀b∈M,h0.get? b=none)(hS:∀b∈S,b∈fs\/h0.get? b=none):Un fs ex H0 H h0 h':=by
 have nM:∀b o,h0.get? b=some o->b∉M:=λb o q z=>by rw[hM b z]at q;cases q
 refine⟨λb o q n hb hx=>k.keep b o (u.keep b o q n hb hx) (nM b o q) λz=>(hS b z).elim hb (λz=>(by rw[z]at q;cases q)),λb o q n hb hx=>?_,u.free,λb o q hx=>?_,u.tups,u.qE,u.rC⟩
 .obtain⟨sl,e⟩:=u.slot b o q n hb hx;obtain⟨wO,e2⟩:=k.any e (nM b o q);exact⟨wO,e2⟩
 .obtain⟨o',e⟩:=u.there b o q hx;obtain⟨sl,e2⟩:=k.any e (nM b o q);exact⟨_,e2⟩
inductive RV(h:Heap)(e:Addr)(cls:Value):Prop|m(oe vs a0)(_:h.get? e=some oe)(_:oe.cls=cls)(_:oe.data= .fields vs)(_:vs[0]? =some a0)(_:vs[1]? =some .none)
inductive i8(h:Heap)(e T:Addr)(cls fl:Value):Prop|m(oe vs oT ts a0)(_:h.get? e=some oe)(_:(oe.cls=cls/\vs[0]? =some a0))(_:oe.data= .fields vs)(_:vs[1]? =some (.ref T))(_:T≠e)(_:h.get? T=some oT)(_:oT.data= .fields ts)(_:ts[3]? =some fl)
def i8.tr{h:Heap}{e T:Addr}{cls fl:Value}{l:List Addr}(x:i8 h e T cls fl)(hT:T∈l):∃a0,h.TracedAtW (hideAll h l) e cls a0 fl:=by
 obtain⟨oe,vs,oT,ts,a0,h1,h2,h3,h4,h5,h6,h7,h8⟩:=x;exact⟨a0,oe,vs,T,oT,ts,h1,h2,h3,h4,hideAll_none _ hT,h5,h6,h7,h8⟩
def i8.of{h B:Heap}{e:Addr}{cls a0 fl:Value}(x:h.TracedAtW B e cls a0 fl):∃T,i8 h e T cls fl/\B.get? T=none:=by
 obtain⟨oe,vs,T,oT,ts,h1,h2,h3,h4,h5,h6,h7,h8,h9⟩:=x;exact⟨T,⟨oe,vs,oT,ts,a0,h1,h2,h3,h4,h6,h7,h8,h9⟩,h5⟩
def KW(h:Heap)(l:List Addr):(hideAll h l).StaysIn h:=λ_ _ e=>of_hideAll l e
def J9{h base:Heap}{l:List Env}{as:List Addr}(x:h.FunFrames base l)(hs:∀b∈frs l,b∈as):h.FunFrames (hideAll h as) l:=
 funFrames_hide x λenv he a hf=>hs a (List.mem_filterMap.mpr ⟨env,he,hf⟩)
def LF{h h' base:Heap}{M S:List Addr}(k:(hideAll h (M++S)).StaysIn h')(u:h.UpToSlots h')(hS:∀b∈S,∀o,h.get? b=some o->∀vs,o.data≠.fields vs):Kept M S h h':=
 ⟨λb o e n s=>k b o (hideAll_get _ e λz=>(List.mem_append.mp z).elim n s),λb o e _ s=>u b o e (hS b s o e)⟩
def A0{h base:Heap}{l:List Env}(x:h.FunFrames base l):∀b∈frs l,∀o,h.get? b=some o->∀vs,o.data≠.fields vs:=λb hb o e=>by
 obtain⟨_,o',e',d⟩:=x.mem hb;rw[e]at e';cases e';exact d
def Qi{h h' base:Heap}{l:List Env}{M:List Addr}{e T:Addr}{cls fl:Value}(x:h.FunFrames base l)(k:Kept M (frs l) h h')(hd:(hideAll h (M++frs l)).get? T=none)(q:i8 h' e T cls fl):h.get? T=none\/T∈M:=by
 cases z:h.get? T with
 |none=>exact .inl rfl
 |some o=>
  refine .inr ?_
  by_cases hm:T∈M
  .exact hm
  .by_cases hs:T∈frs l
   .obtain⟨sl,e2⟩:=k.slot T o z hm hs;obtain⟨_,_,oT,ts,_,_,_,_,_,_,h6,h7,_⟩:=q;rw[e2]at h6;cases h6;exact cJ h7 (A0 x T hs o z ts)
   .have:=hideAll_get (M++frs l) z λy=>(List.mem_append.mp y).elim hm hs;rw[hd]at this;cases this
section
variable {M:Model}{A:Around}{E:Value->Shared->Prop}{s:Shared}{env:Env}{outer:List Env}{L e:Addr}{cls:Value}{base:Heap}{Q:Unit->Shared->Prop}
def aG6(iT:A.frames=some (env::outer))(hl:s.heap.FunFrames base (env::outer))(hf:env.frame=some L)(hx:RV s.heap e cls)
  (h:∀h' T,Kept [e] (frs (env::outer)) s.heap h'->i8 h' e T cls (rawInt L)->s.heap.get? T=none->Q Unit.unit {s with heap:=h'}):wpAny M A (noteFrame (.ref e) env) Q E s:=by
 obtain⟨oe,vs,a0,h1,h2,h3,h4,h5⟩:=hx;unfold noteFrame;simp only[hf];refine b8 (wpAny_field h1 h3 h5 ?_);rw[aa ()];refine wpAny_entryW (base:=hideAll s.heap ([e]++frs (env::outer))) (a0:=a0) iT (J9 hl λb hb=>bD _ hb) hf h1 (KW _ _) (hideAll_none _ (by simp)) h3 (Array.getElem?_eq_some_iff.mp h5).1 h4 λh' hn=>?_;obtain⟨k1,_,k3,k4⟩:=hn;have K:=LF (base:=base) k1 k4 (A0 hl);rw[h2]at k3;obtain⟨T,q,hT⟩:=i8.of k3;refine h h' T K q ((Qi hl K hT q).resolve_right λz=>?_);obtain⟨_,_,_,_,_,_,_,_,_,ne,_⟩:=q;exact ne (by simpa using z)
def aG5{T:Addr}{fl:Value}(iT:A.frames=some (env::outer))(hl:s.heap.FunFrames base (env::outer))(hf:env.frame=some L)(hx:i8 s.heap e T cls fl)
  (h:∀h' T',Kept [e,T] (frs (env::outer)) s.heap h'->i8 h' e T' cls (rawInt L)->(s.heap.get? T'=none\/T'=T)->Q Unit.unit {s with heap:=h'}):wpAny M A (noteFrame (.ref e) env) Q E s:=by
 by_cases SJ:fl=rawInt L
 .subst SJ;obtain⟨a0,tr⟩:=hx.tr (l:=[T]) (by simp);exact wpAny_noteFrame_againW hf tr (h s.heap T (.refl _ _ _) hx (.inr rfl))
 .obtain⟨oe,vs,oT,ts,a0,h1,⟨h2,h0⟩,h3,h4,h5,h6,h7,h8⟩:=hx;unfold noteFrame;simp only[hf];refine b8 (wpAny_field h1 h3 h4 ?_);rw[ah (show(Value.ref T != Value.none)=true from by simp)];refine b8 (wpAny_field h6 h7 h8 ?_);rw[aa (show¬((fl==rawInt L)=true)from λz=>SJ (by simpa using z))];refine b8 (wpAny_setField h6 h7 (Array.getElem?_eq_some_iff.mp h8).1 ?_);have zu:∀b,b≠T->(s.heap.update T (Obj.mapFields (·.setIfInBounds 3 Value.none))).get? b=s.heap.get? b:=λb hb=>Heap.get?_update_other _ _ (cH hb);have K0:Kept [e,T] (frs (env::outer)) s.heap (s.heap.update T (Obj.mapFields (·.setIfInBounds 3 Value.none))):=
   ⟨λb o q n _=>(zu b λz=>n (by simp[z])).trans q,λb o q n _=>⟨o.slots,(zu b λz=>n (by simp[z])).trans q⟩⟩
  have aS0:=A0 hl;have xj:(s.heap.update T (Obj.mapFields (·.setIfInBounds 3 Value.none))).FunFrames base (env::outer):=
   hl.of_keeps λb o q nf=>⟨o,(zu b λz=>by subst z;rw[h6]at q;cases q;exact nf ts h7).trans q,rfl⟩
  have Ie:=Heap.get?_update_self (Obj.mapFields (·.setIfInBounds 3 Value.none)) h6 (Obj.isFreed_of_fields (Obj.data_mapFields h7 _));refine wpAny_entryW (base:=hideAll (s.heap.update T (Obj.mapFields (·.setIfInBounds 3 Value.none))) ([e,T]++frs (env::outer))) (a0:=a0) iT (J9 xj λb hb=>bD _ hb) hf ((zu e (cH h5)).trans h1) (KW _ _)
   (hideAll_none _ (by simp)) h3 (Array.getElem?_eq_some_iff.mp h4).1 h0 λh' hn=>?_
  obtain⟨k1,_,k3,k4⟩:=hn;have K1:=LF (base:=base) k1 k4 (A0 xj);rw[h2]at k3;obtain⟨T',q,hT'⟩:=i8.of k3;refine h h' T' (K0.trans K1 λc hc=>.inl hc) q ?_;rcases Qi xj K1 hT' q with z|z
  .by_cases ht:T'=T
   .exact .inr ht
   .exact .inl (by rw[<-zu T' ht];exact z)
  .obtain⟨_,_,_,_,_,_,_,_,_,ne,_⟩:=q;simp at z;exact .inr (z.resolve_left ne)
def flight{T:Addr}{fl:Value}{fr:Option Addr}(hx:i8 s.heap e T cls fl)
  (h:∀h',Kept [T] [] s.heap h'->i8 h' e T cls (fr.elim Value.none λf=>rawInt f)->Q Unit.unit {s with heap:=h'}):wpAny M A (setFlight (.ref e) fr) Q E s:=by
 obtain⟨oe,vs,oT,ts,a0,h1,h2,h3,h4,h5,h6,h7,h8⟩:=hx;have sz:=(Array.getElem?_eq_some_iff.mp h8).1;unfold setFlight;refine b8 (wpAny_field h1 h3 h4 ?_);rw[ah (show(Value.ref T != Value.none)=true from by simp)];refine wpAny_setField h6 h7 sz (h _ ?_ ?_)
 .exact⟨λb o q n _=>(Heap.get?_update_other _ _ λz=>n (by simp[z])).trans q,λb o _ _ z=>cJ z (by simp)⟩
 .refine⟨oe,vs,_,_,a0,(Heap.get?_update_other _ _ h5).trans h1,h2,h3,h4,h5,Heap.get?_update_self _ h6 (Obj.isFreed_of_fields (Obj.data_mapFields h7 _)),Obj.data_mapFields h7 _,?_⟩;rw[Array.getElem?_setIfInBounds_self_of_lt sz]
def wL(h:Heap)(e:Addr)(cls:Value)(tr:List Addr):Prop:=(tr=[]/\RV h e cls)\/∃T fl,tr=[T]/\i8 h e T cls fl
def Qh{tr:List Addr}(iT:A.frames=some (env::outer))(hl:s.heap.FunFrames base (env::outer))(hf:env.frame=some L)(hx:wL s.heap e cls tr)
  (h:∀h' T',Kept (e::tr) (frs (env::outer)) s.heap h'->i8 h' e T' cls (rawInt L)->(s.heap.get? T'=none\/T'∈tr)->Q Unit.unit {s with heap:=h'}):wpAny M A (noteFrame (.ref e) env) Q E s:=by
 rcases hx with⟨rfl,hx⟩|⟨T,fl,rfl,hx⟩
 .exact aG6 iT hl hf hx λh' T k q z=>h h' T k q (.inl z)
 .exact aG5 iT hl hf hx λh' T' k q z=>h h' T' k q (z.imp id λz=>by simp[z])
def Qo{tr:List Addr}(iT:A.frames=some (env::outer))(hl:s.heap.FunFrames base (env::outer))(hf:env.frame=some L)(hx:wL s.heap e cls tr)
  (h:∀h' T',Kept (e::tr) (frs (env::outer)) s.heap h'->i8 h' e T' cls .none->(s.heap.get? T'=none\/T'∈tr)->Q Unit.unit {s with heap:=h'}):
  wpAny M A (noteFrame (.ref e) env) (λ_ s'=>wpAny M A (setFlight (.ref e) none) Q E s') E s:=by
 refine Qh iT hl hf hx λh1 T' k q z=>?_;refine flight (s:={s with heap:=h1}) q λh2 k2 q2=>?_;refine h h2 T' (k.trans (k2.mono (λc hc=>hc) (λc hc=>cJ hc (by simp))) λc hc=>?_) q2 z;have:c=T':=by simpa using hc
 subst this;exact z.symm.imp (λz=>aA _ z) id
def leaveX{tr:List Addr}(iT:A.frames=some (env::outer))(hl:s.heap.FunFrames base (env::outer))(hf:env.frame=some L)(hx:wL s.heap e cls tr)
  (h:∀h' T',Kept (e::tr) (frs (env::outer)) s.heap h'->i8 h' e T' cls .none->(s.heap.get? T'=none\/T'∈tr)->Q Unit.unit {s with heap:=h'}):wpAny M A (leaving env (.ref e)) Q E s:=by
 unfold leaving;exact b8 (Qo iT hl hf hx h)
end
def fO(P:Program)(w:World)(C:Addr):jx:=λouter H s E u s'=>∃e T H',u= .ref e/\s'.os=s.os/\AllBare s'.gens/\Un (frs outer) [] H H' s.heap s'.heap/\gw P w H' s'.heap/\i8 s'.heap e T (.ref C) .none/\
 (∀b∈[e,T],s.heap.get? b=none/\H' b=none)/\E (.ref C) none H'
inductive Out(X:Cx)(C e:Addr)(H':Hp)(s':Shared):Prop|m(pins σ tr)(_:Inv X pins σ H' s')(_:wL s'.heap e (.ref C) tr)(_:∀b∈e::tr,X.iw.heap.get? b=none/\H' b=none/\∀p∈X.pn++pins,p.1≠b)
structure lg(X:Cx)(C:Addr)(EH:Hp->Prop):Prop where
 ex:∀b∈X.ex,∃o,(b,o)∈X.pn
 go:∀e H' s',Out X C e H' s'->EH H'->X.xe (.ref e) s'
def AZ{P:Program}{w:World}{H:Hp}{h:Heap}(x:gw P w H h){b:Addr}(e:h.get? b=none):H b=none:=by
 cases q:H b with
 |none=>rfl
 |some o=>
  obtain⟨u,z⟩:=(x b o q).there;rw[e]at z;cases z
def vO{fs ex:List Addr}{H H':Hp}{h h':Heap}(u:Un fs ex H H' h h'){b:Addr}(e:h'.get? b=none)(hx:b∉ex):h.get? b=none:=by
 cases q:h.get? b with
 |none=>rfl
 |some o=>
  obtain⟨o',z⟩:=u.there b o q hx;rw[e]at z;cases z
def af8{P:Program}{w:World}{K:b6}{mg:Str->Option Value}{base:Heap}{N:List Str}{qual:Str}{scope:Scope}{f C:Addr}{cd:Value}{A:Around}{outer:List Env}{s:Shared}{H:Hp}{E:XK}:
  lg (gJ (fO P w C) P w K mg base N qual scope f cd A outer s H E) C (E (.ref C) none):=by
 refine⟨λb hb=>cJ (show b∈([]:List Addr)from hb) (by simp),λe H' s' h q=>?_⟩;obtain⟨pins,σ,tr,I,x,fr⟩:=h;refine leaveX (base:=base) (outer:=outer) (L:=s.heap.objs.size) I.ok.frames I.stack rfl x λh' T' k x' z=>?_;have hS:∀b∈frs (envOfC qual scope s.heap.objs.size f cd::outer),b∈frs outer\/s.heap.get? b=none:=λb hb=>by
  have hb:b∈s.heap.objs.size::frs outer:=hb;rcases aN.mp hb with rfl|hb
  .exact .inr (Heap.get?_none_of_le (aI _))
  .exact .inl hb
 refine⟨e,T',H',rfl,I.os,I.bare,Un.through (fs:=frs outer) (ex:=[]) I.base k (λb hb=>(fr b hb).1) hS,I.hok.through k (λb hb=>(fr b hb).2.1) I.yf,x',λb hb=>?_,q⟩;have hb:b=e\/b=T':=by simpa using hb
 rcases hb with rfl|rfl
 .exact⟨(fr b (by simp)).1,(fr b (by simp)).2.1⟩
 .rcases z with z|z
  .exact⟨vO I.base z (λy=>cJ (show b∈([]:List Addr)from y) (by simp)),AZ I.hok z⟩
  .exact⟨(fr b (by simp[z])).1,(fr b (by simp[z])).2.1⟩
def kQ{X:Cx}{C:Addr}{E:XK}{EH:Hp->Prop}(hx:lg X C EH)(hi:∀H',E (.ref C) none H'->EH H'):Passes (fO X.prog X.w C) X E:=λpins σ H s u s' I h=>by
 obtain⟨e,T,H',rfl,os,bare,un,hok,x,fr,q⟩:=h;have I':Inv X pins σ H' s':=I.BO (ch:=[]) os un hok bare (λb z=>cJ z (by simp));refine hx.go e H' s' ⟨pins,σ,[T],I',.inr ⟨T,_,rfl,x⟩,λb hb=>?_⟩ (hi _ q);obtain⟨f1,f2⟩:=fr b hb;have np:∀p∈X.pn++pins,p.1≠b:=λp hp z=>by
  have:=(I.pin p hp).1;rw[z,f1]at this;cases this
 refine⟨vO I.base f1 λhb=>?_,f2,np⟩;obtain⟨o,ho⟩:=hx.ex b hb;exact np _ (bE _ ho) rfl
def mZ{X:Cx}{C:Addr}{EH:Hp->Prop}{x:Str}{B newId lE:String}{bm:List Value}{e₀:Expr}{rest:List Expr}{ta:TA}{np lN pos:Pos}(O:OwnCls x C bm newId X.mg X.base)(FB:ExcBaseFacts B newId lE bm)(hc:X.calm=true)
  (hx:lg X C EH)(hg:Gl X x)(ha:PA X (e₀::rest) ta)(he:starEach (e₀::rest) X.env=(false,eval e₀ X.env)::starEach rest X.env:=by rfl)(fh:(backTo lN (starEach rest X.env)).any (·.1)=false:=by rfl)
  (hd:(x==("__debug__":Str))=false:=by decide):
  PS X (.Raise (some (.Call (.Name x np) (e₀::rest) [] lN)) none pos) (λ_ σ H=>ta σ H λvs H1=>vs.length<=sizeLine/\EH H1):=by
 intro pins s σ H D I h;obtain⟨tl,N,nm,q,bs,hdct,sn,sub,ab,col,dd,k0,k1,k2,k3,k5,mN,hC,hN,HH,T⟩:=O.obj;refine wpAny_Raise_call_subT (C:=C) (nm:=nm) (q:=q) (N:=N) (bs:=bs) (bm:=tl) (hdct:=hdct) (sn:=sn) (sub:=sub) (ab:=ab) (col:=col) (dd:=dd) (k0:=k0) (k1:=k1) (k2:=k2) (k3:=k3) (k5:=k5) FB (mN:=mN)
  (T.hasType FB.hasBase) (I.ok.hd hc) (by rw[he];show(false||(backTo lN (starEach rest X.env)).any (·.1))=false;rw[fh];rfl) HH (vR I hg O.bound ⟨rfl,?_⟩ hd)
 have h2:=ha lN pins s σ H _ I h;rw[he]at h2 ⊢;refine Calls.evalArgs_plain (wpAny_mono h2 (λus s2 ⟨vs,H2,I2,r,z,q⟩=>?_) λ_ _ y=>y);refine⟨rfl,by rw[<-r.length];exact z,I2.bk _ _ hC,hN.keeps I2.bk,T.keeps I2.bk,λh' e m=>?_⟩;refine hx.go e H2 _ ⟨pins,σ,[],I2.kept (t':=s2.toks) m.keeps,.inl ⟨rfl,?_⟩,λb hb=>?_⟩ q
 .obtain⟨t,e1,_⟩:=m.there;exact⟨_,_,_,e1,rfl,rfl,rfl,rfl⟩
 .have hb:b=e:=by simpa using hb
  subst hb;have np:∀p∈X.pn++pins,p.1≠b:=λp hp z=>by
   have:=(I2.pin p hp).1;rw[z,m.new]at this;cases this
  refine⟨vO I2.base m.new λhb=>?_,AZ I2.hok m.new,np⟩;obtain⟨o,ho⟩:=hx.ex b hb;exact np _ (bE _ ho) rfl
def dM.okX{P:Program}{w:World}{K:b6}{mg:Str->Option Value}{base:Heap}{C:Addr}{x qual:Str}{st:Stmt}{f:Addr}{fd:FuncData}{N ps:List Str}{k:Nat}{sp:Sp}(F:dM K x qual st f fd)(S:dP N ps (c9 st))(len:∀vs H Q E,sp vs H Q E->vs.length=ps.length)
  (rA:∀(c8:Value) (A:Around) (outer:List Env) (s:Shared) (H:Hp) (vs:List V) (Q:VK) (E:XK),gU k (A.deeper (envOfC qual (c9 st) s.heap.objs.size f c8))->sp vs H Q E->
   lg (gJ (fO P w C) P w K mg base N qual (c9 st) f c8 A outer s H E) C (E (.ref C) none)->
   PassesOwn (model P w) (A.deeper (envOfC qual (c9 st) s.heap.objs.size f c8)) (envOfC qual (c9 st) s.heap.objs.size f c8) (gJ (fO P w C) P w K mg base N qual (c9 st) f c8 A outer s H E).xe->
   ∃t,gb (gJ (fO P w C) P w K mg base N qual (c9 st) f c8 A outer s H E) (gH st) t/\t {nx:=λ_ H'=>Q .dI H',rt:=Q} (start N vs) H):dJ P w K mg base (fO P w C) (k+1) f fd ps sp:=by
 obtain⟨oc,od,kV,doc,pm,an,c8,ct,jU,rfl,lk,lX⟩:=F.ex;exact Qq lk lX S len λA outer s H vs Q E hr nU=>rA c8 A outer s H vs Q E hr nU af8 PassesOwn.leaving
def dM.oX{P:Program}{w:World}{K:b6}{mg:Str->Option Value}{base:Heap}{C:Addr}{x qual:Str}{st:Stmt}{f:Addr}{fd:FuncData}{N ps:List Str}{k:Nat}{sp:Sp}(F:dM K x qual st f fd)(S:dP N ps (c9 st))
  (rA:∀(c8:Value) (A:Around) (outer:List Env) (s:Shared) (H:Hp) (vs:List V) (Q:VK) (E:XK),gU k (A.deeper (envOfC qual (c9 st) s.heap.objs.size f c8))->sp vs H Q E->
   lg (gJ (fO P w C) P w K mg base N qual (c9 st) f c8 A outer s H E) C (E (.ref C) none)->
   PassesOwn (model P w) (A.deeper (envOfC qual (c9 st) s.heap.objs.size f c8)) (envOfC qual (c9 st) s.heap.objs.size f c8) (gJ (fO P w C) P w K mg base N qual (c9 st) f c8 A outer s H E).xe->
   ∃t,gb (gJ (fO P w C) P w K mg base N qual (c9 st) f c8 A outer s H E) (gH st) t/\t {nx:=λ_ H'=>Q .dI H',rt:=Q} (start N vs) H)(len:∀vs H Q E,sp vs H Q E->vs.length=ps.length:=by exact ∅):dJ P w K mg base (fO P w C) (k+1) f fd ps sp:=F.okX S len rA
section
variable {X:Cx}{pins:List (Addr×Obj)}{σ:St}{H:Hp}{s:Shared}{h':Heap}
def Cx.Ok.turn(ok:X.Ok){E:Value->Shared->Prop}{pn:List (Addr×Obj)}{A:Around}{c:Bool}(hA:A.frames=X.A.frames)(hh:c=true->A.handled=none):Cx.Ok {X with A:=A,calm:=c,xe:=E,pn:=pn}:=
 ⟨ok.mod,ok.kind,ok.glob,ok.blt,ok.above,ok.inj,ok.has,ok.vh,hh,hA.trans ok.frames,ok.stk,ok.ve,ok.bs,ok.qU,ok.wI,ok.uL,ok.lI,ok.tX⟩
theorem Inv.turn(I:Inv X pins σ H s){E:Value->Shared->Prop}{pn jf:List (Addr×Obj)}{A:Around}{c:Bool}(hA:A.frames=X.A.frames)(hh:c=true->A.handled=none)(hp:∀p∈pn++jf,p∈X.pn++pins):
  Inv {X with A:=A,calm:=c,xe:=E,pn:=pn} jf σ H s:=⟨I.ok.turn hA hh,I.os,I.bare,I.base,I.loc,I.cell,I.free,I.mH,λp h=>I.pin p (hp p h),I.hok,I.len⟩
def Inv.Qy{M:List Addr}(I:Inv X pins σ H s)(k:Kept M (frs X.stack) s.heap h')(hM:∀b∈M,X.iw.heap.get? b=none/\H b=none/\∀p∈X.pn++pins,p.1≠b)(hR:∀b∈M,∀o,s.heap.get? b=some o->∃vs,o.data= .fields vs)(n8:∀x,X.fn x=true):
  Inv X pins σ H {s with heap:=h'}:=by
 have hS:∀b∈frs X.stack,b∈X.fs\/X.iw.heap.get? b=none:=λb hb=>by
  rcases aN.mp (I.vW b hb)with rfl|z
  .exact .inr (Heap.get?_none_of_le I.ok.above)
  .exact .inl z
 have cellK:∀x c v,X.env.cells.lookup x=some c->s.heap.IsCell c v->h'.IsCell c v:=λx c v hx q=>by
  obtain⟨o,ho,hd⟩:=q;refine⟨o,k.keep c o ho (λz=>?_) λz=>?_,hd⟩
  .obtain⟨vs,e⟩:=hR c z o ho;rw[hd]at e;cases e
  .rcases aN.mp (I.vW c z)with y|y
   .obtain⟨m,⟨o',es,ep,jF,xx,_⟩,_⟩:=I.loc;rw[y,jF]at ho;cases ho;rw[xx]at hd;cases hd
   .obtain⟨_,o',jF,_⟩:=I.ok.lI.mem y;exact cJ (bA (cj jF) (I.ok.vh x c (n8 x) hx)) (Nat.lt_irrefl _)
 obtain⟨m,hn,hl⟩:=I.loc;refine⟨I.ok,I.os,I.bare,I.base.through k (λb hb=>(hM b hb).1) hS,⟨m,?_,λi x v e1 e2 e3=>?_⟩,λx c e=>?_,I.free,I.mH,λp hp=>?_,I.hok.through k (λb hb=>(hM b hb).2.1) I.yf,I.len⟩
 .obtain⟨o,es,ep,ho,hd,r⟩:=hn;obtain⟨sl,e⟩:=k.any ho λz=>(by
   obtain⟨vs,e⟩:=hR _ z o ho;rw[hd]at e;cases e)
  exact⟨_,es,ep,e,hd,r⟩
 .obtain⟨u,r,z⟩:=hl i x v e1 e2 e3;exact⟨u,r,z.imp id λ⟨a,c,b,q⟩=>⟨a,c,b,cellK x c _ b q⟩⟩
 .obtain⟨v,q⟩:=I.cell x c e;exact⟨v,cellK x c v e q⟩
 .obtain⟨a,b,c,d,e⟩:=I.pin p hp;refine⟨k.keep _ _ a (λz=>(hM _ z).2.2 p hp rfl) (λz=>?_),b,c,d,e⟩;rcases aN.mp (I.vW _ z)with y|y
  .exact c y
  .exact d y
def LQ{h:Heap}{e:Addr}{cls:Value}{tr:List Addr}(x:wL h e cls tr):∀b∈e::tr,∀o,h.get? b=some o->∃vs,o.data= .fields vs:=λb hb o ho=>by
 rcases x with⟨rfl,oe,vs,a0,h1,h2,h3,_⟩|⟨T,fl,rfl,oe,vs,oT,ts,a0,h1,_,h3,_,_,h6,h7,_⟩
 .have:b=e:=by simpa using hb
  subst this;rw[h1]at ho;cases ho;exact⟨_,h3⟩
 .have:b=e\/b=T:=by simpa using hb
  rcases this with rfl|rfl
  .rw[h1]at ho;cases ho;exact⟨_,h3⟩
  .rw[h6]at ho;cases ho;exact⟨_,h7⟩
theorem SP.turn{E:Value->Shared->Prop}{pn jf:List (Addr×Obj)}{A:Around}{c:Bool}{D:Ends}{fl:Flow}{s':Shared}(h:SP {X with A:=A,calm:=c,xe:=E,pn:=pn} jf D fl s')(hA:A.frames=X.A.frames)(hh:X.calm=true->X.A.handled=none)
  (hp:∀p∈X.pn++pins,p∈pn++jf):SP X pins D fl s':=by
 have back:∀{σ':St} {H':Hp},Inv {X with A:=A,calm:=c,xe:=E,pn:=pn} jf σ' H' s'->Inv X pins σ' H' s':=λI=>I.turn (X:={X with A:=A,calm:=c,xe:=E,pn:=pn}) (E:=X.xe) (pn:=X.pn) (jf:=pins) (A:=X.A) (c:=X.calm) hA.symm hh hp;cases fl with
 |next=>obtain⟨σ',H',I,q⟩:=h;exact⟨σ',H',back I,q⟩
 |brk=>obtain⟨σ',H',I,q⟩:=h;exact⟨σ',H',back I,q⟩
 |cont=>obtain⟨σ',H',I,q⟩:=h;exact⟨σ',H',back I,q⟩
 |ret u=>obtain⟨v,σ',H',I,r,q⟩:=h;exact⟨v,σ',H',back I,r,q⟩
end
def GI(mg:Str->Option Value)(x:Str)(n:Int):Prop:=∃t,mg x=some (.int n t)
def GS(mg:Str->Option Value)(x z:Str):Prop:=∃t,mg x=some (.str z t)
section
variable {X:Cx}{x:Str}{pos:Pos}
def dG{n:Int}(h:GI X.mg x n)(hg:Gl X x:=by rfl)(hd:(x==("__debug__":Str))=false:=by decide):PE X (.Name x pos) (tC (.int n)):=
 let⟨t,e⟩:=h;EV hg e ⟨t,rfl⟩ hd
def aG0{z:Str}(h:GS X.mg x z)(hg:Gl X x:=by rfl)(hd:(x==("__debug__":Str))=false:=by decide):PE X (.Name x pos) (tC (.str z)):=
 let⟨t,e⟩:=h;EV hg e ⟨t,rfl⟩ hd
def i7{a:Addr}(h:X.mg x=some (.ref a))(hg:Gl X x:=by rfl)(hd:(x==("__debug__":Str))=false:=by decide):PE X (.Name x pos) (tC (.ref a)):=EV hg h rfl hd
end
structure kX(P:Program)(w:World)(K:b6)(d:Addr)(d_:List (Key×V)):Prop where
 ns:(d==sysModules)=false
 few:d_.length<=sizeLine
 ex:∃(o:Obj) (es:Array DictEntry) (ep:Nat) (vs:List (Key×Value)),K.lookup d=some o/\o.ExactDict/\o.data= .dict es ep/\KeysOf (qg P w) es/\Pairs (qg P w) es.toList vs/\(vs.map (·.1)).Nodup/\KV d_ vs
section
variable {X:Cx}{pins:List (Addr×Obj)}{σ:St}{H:Hp}{s:Shared}{d:Addr}{d_:List (Key×V)}
theorem kX.at(D:kX X.prog X.w X.K d d_)(I:Inv X pins σ H s):∃(o:Obj) (es:Array DictEntry) (ep:Nat) (vs:List (Key×Value)),s.heap.get? d=some o/\o.ExactDict/\o.data= .dict es ep/\es.size=d_.length/\KV d_ vs/\
  s.heap.DictOf (qg X.prog X.w) d vs/\s.heap.DictAt (qg X.prog X.w) d vs ep:=by
 obtain⟨o,es,ep,vs,lk,hx,hd,h1,h2,h3,kv⟩:=D.ex;have ho:=I.kZ _ _ lk;refine⟨o,es,ep,vs,ho,hx,hd,?_,kv,⟨o,es,ep,ho,hx,hd,h1,h2,h3⟩,⟨o,es,ho,hx,hd,h1,h2,h3⟩⟩;have l1:=h2.length;have l2:d_.length=vs.length:=Paired.length kv;rw[bR]at l1;lia
variable {k:Key}{u:Value}{A:Around}{E:Value->Shared->Prop}
def aC5{v:V}{Q:Value->Shared->Prop}(D:kX X.prog X.w X.K d d_)(I:Inv X pins σ H s)(l:ku d_ k=some v)(ry:RelV (kV k) u)(h:∀w' s',Inv X pins σ H s'->RelV v w'->Q w' s'):wpAny (model X.prog X.w) A (getItem (.ref d) u) Q E s:=by
 obtain⟨o,es,ep,vs,ho,hx,hd,hz,rel,dd,_⟩:=D.at I;obtain⟨w',hw,uQ⟩:=o_.some_of (v:=v) (o:=valueAt vs k) (by rw[<-l];exact rel.val k);exact wpAny_getItem_of (Qp ry) dd.mapOf hw (h w' _ (I.tok _) uQ)
def aI6{Q:Value->Shared->Prop}(D:kX X.prog X.w X.K d d_)(I:Inv X pins σ H s)(ry:RelV (kV k) u)(h:∀s',Inv X pins σ H s'->Q (.bool (ku d_ k).isSome) s'):wpAny (model X.prog X.w) A (compareOp .In u (.ref d)) Q E s:=by
 obtain⟨o,es,ep,vs,ho,hx,hd,hz,rel,dd,_⟩:=D.at I;refine wpAny_in_of (Qp ry) D.ns dd.mapOf ?_;rw[<-(rel.val k).Zg];exact h _ (I.tok _)
end
inductive ag3(P:Program)(w:World)(K:b6)(Q:VK)(x:V)(y:V)(H2:Hp):Prop|m(a d_ k v)(_:x= .ref a)(_:kX P w K a d_)(_:y=kV k)(_:ku d_ k=some v)(_:Q v H2)
def aD8(P:Program)(w:World)(K:b6)(td ty:TE):TE:=λσ H Q=>td σ H λx H1=>ty σ H1 λy H2=>ag3 P w K Q x y H2
inductive ar7(P:Program)(w:World)(K:b6)(Q:VK)(y:V)(x:V)(H2:Hp):Prop|m(a d_ k)(_:x= .ref a)(_:kX P w K a d_)(_:y=kV k)(_:Q (.bl (ku d_ k).isSome) H2)
def aJ8(P:Program)(w:World)(K:b6)(ty td:TE):TE:=λσ H Q=>ty σ H λy H1=>td σ H1 λx H2=>ar7 P w K Q y x H2
section
variable {X:Cx}{o i:Expr}{pos:Pos}{td ty:TE}
def EU(ho:PE X o td)(hi:PE X i ty)(hs:RT i):PE X (.Subscript o i pos) (aD8 X.prog X.w X.K td ty):=by
 intro pins s σ H Q I h;refine ag6 PySem.F.slot_dict_getitem.lookup hs (dY (ho pins s σ H _ I h) λu s1 ⟨x,H1,I1,rx,q1⟩=>dY (hi pins s1 σ H1 _ I1 q1) λiv s2 ⟨y,H2,I2,ry,a,d_,k,v,ex,D,ey,l,q2⟩=>?_);subst ex ey;obtain rfl:u=Value.ref a:=rx;obtain⟨_,_,_,_,_,_,_,_,_,dd,_⟩:=D.at I2;exact⟨dd.typeIs,aC5 D I2 l ry λw' s3 I3 uQ=>⟨v,H2,I3,uQ,q2⟩⟩
def NX(hi:PE X i ty)(ho:PE X o td):PC X .In i o (aJ8 X.prog X.w X.K ty td):=by
 intro pins s σ H Q I h;refine dY (hi pins s σ H _ I h) λiv s1 ⟨y,H1,I1,ry,q1⟩=>dY (ho pins s1 σ H1 _ I1 q1) λu s2 ⟨x,H2,I2,rx,a,d_,k,ex,D,ey,q2⟩=>?_;subst ex ey;obtain rfl:u=Value.ref a:=rx;exact aI6 D I2 ry λs3 I3=>⟨.bl _,H2,I3,rfl,q2⟩
end
def Itm(d_:List (Key×V)):It:=⟨λi _=>i<d_.length,λi H x H'=>H'=H/\∃k v,d_[i]? =some (k,v)/\x=kV k,λi _=>d_.length<=i⟩
def aR6(P:Program)(w:World)(K:b6)(d:Addr)(d_:List (Key×V))(ep:Nat):Prop:=kX P w K d d_/\∃o es,K.lookup d=some o/\o.data= .dict es ep
def X4{P:Program}{w:World}{K:b6}{tg:Expr}{d:Addr}{d_:List (Key×V)}{ep:Nat}(D0:aR6 P w K d d_ ep)(it:Addr):Turn P w K tg (Itm d_) [it] it (λi h=>h.IsKeyIter it d i d_.length ep) where
 mem:=by simp
 obj:=λi h st b hb=>by
  have e:b=it:=by simpa using hb
  subst e;obtain⟨oi,e,c,dd⟩:=st;exact⟨oi,e,λv z=>by rw[dd]at z;cases z⟩
 keep:=λi h h' st k=>st.at λoi e=>k it (by simp) oi e
 item:=by
  intro X hP hw hK hc i pins s σ H E I hf st hi;subst hP hw hK;obtain⟨D,o0,es0,Ho,tN⟩:=D0;obtain⟨f0,f1,f2,f3,f4,f5⟩:=hf it (by simp);obtain⟨o,es,rT,vs,u7,hx,tM,hsz,kv,_,hm⟩:=D.at I;have eo:=(I.kZ _ _ Ho).symm.trans u7;cases eo;obtain⟨rfl,rfl⟩:=MO tN tM;obtain⟨⟨k,v⟩,SG⟩:∃p,d_[i]? =some p:=⟨d_[i],br hi⟩;obtain⟨u,hu,ru⟩:=aA4 kv SG;have hl:d_.length=vs.length:=Paired.length kv;rw[hl]at st;refine wpAny_pyNext_dict_item st hm hu λkey h' GA lQ sb=>?_;have I1:Inv X pins σ H {s with heap:=h'}:=I.turned (t':=s.toks) (λb ob hb e=>(sb.2 b hb).trans e) f0 f1 f3 f4 f5;obtain⟨oi,e,c,dd⟩:=id lQ;refine⟨key,rfl,yK (s:={s with heap:=h'}) e c dd () ⟨kV k,H,I1,aa0 (show qx k key=true from GA),⟨rfl,k,v,SG,rfl⟩,?_,λb hb=>(hf b hb).1⟩⟩;show h'.IsKeyIter it d (i+1) d_.length _;rw[hl];exact lQ
 done:=by
  intro X hP hw hK hc i pins s σ H E I hf st hi;subst hP hw hK;obtain⟨D,o0,es0,Ho,tN⟩:=D0;obtain⟨f0,f1,f2,f3,f4,f5⟩:=hf it (by simp);obtain⟨o,es,rT,vs,u7,hx,tM,hsz,kv,_,hm⟩:=D.at I;have eo:=(I.kZ _ _ Ho).symm.trans u7;cases eo;obtain⟨rfl,rfl⟩:=MO tN tM;exact WE (I.ok.hd hc) st u7 tM hsz hi λh' eb=>⟨rfl,I.turned (t':=s.toks) (λb ob hb e=>eb b ob hb e) f0 f1 f3 f4 f5⟩
 self:=λA i s Q E st h=>wpAny_pyIter_keyiter st h
inductive ad6(P:Program)(w:World)(K:b6)(R:It->Hp->Prop)(x:V)(H1:Hp):Prop|m(d d_)(_:x= .ref d)(_:kX P w K d d_)(_:R (Itm d_) H1)
def aB3(P:Program)(w:World)(K:b6)(td:TE):TI:=λσ H R=>td σ H λx H1=>ad6 P w K R x H1
def aa3{X:Cx}{tg e:Expr}{td:TE}(he:PE X e td):PI X tg e (aB3 X.prog X.w X.K td):=by
 intro pins s σ H R I h;refine dY (he pins s σ H _ I h) λu s1 ⟨x,H1,I1,rx,d,d_,ex,D,q⟩=>?_;subst ex;obtain rfl:u=Value.ref d:=rx;obtain⟨o,es,ep,vs,u7,hx,tM,hsz,kv,_,hm⟩:=D.at I1;obtain⟨o',vf,rT,vs',lk,_,xx,_⟩:=D.ex;have eo:=(I1.kZ _ _ lk).symm.trans u7;cases eo;refine Zf D.ns u7 hx tM (Fw (tk:=s1.toks) I1 _ (X4 ⟨D,_,_,lk,tM⟩ _) ⟨_,cu _ rfl,rfl,?_⟩ q);rw[hsz]<;>rfl
section
variable {X:Cx}
def Y9{e:Value}{a b:Env}(h:a.frame=b.frame):noteFrame e a=noteFrame e b:=by
 unfold noteFrame PySem.frameOf;rw[h]
theorem ap9 {pins : List (Addr × Obj)} {σ : St} {H3 : Hp} {s3 : Shared} {scope : Scope} {ce : Env} {fp : List Addr} {pn : List (Addr × Obj)} {xe : Value → Shared → Prop} {use : Option (Value → Sem Unit)} {Qf : Value → Shared → Prop} {D : Value} {C0 : Addr} {EH : Hp → Prop}
    (hX : lg X C0 EH) (mS : X.stack = X.env :: X.outer) (iT : X.env.frame = some X.env.locals) (I3 : Inv X pins σ H3 s3)
    (f3 : ∀ b ∈ fp, (b ∈ X.ex ∨ X.iw.heap.objs.size ≤ b) ∧ b ≠ X.env.locals ∧ (∀ x c, X.env.cells.lookup x = some c → c ≠ b) ∧ ∀ p ∈ X.pn ++ pins, p.1 ≠ b) (pL : ∀ b ∈ fp, ∃ o, (b, o) ∈ pn)
    (cL : ce.locals = s3.heap.objs.size) (cF : ce.frame = X.env.frame) {jf : List (Addr × Obj)} {σ' : St} {H' : Hp} {s' : Shared} {e : Addr} {tr : List Addr} (I' : Inv { X.blk s3 H3 scope ce fp with pn := pn, xe := xe } jf σ' H' s')
    (x' : wL s'.heap e (.ref C0) tr) (fr : ∀ b ∈ e :: tr, s3.heap.get? b = none ∧ H' b = none ∧ ∀ p ∈ pn ++ jf, p.1 ≠ b) (q : EH H') :
    notedBy (model X.prog X.w) X.A ce (fun e s' => compPost (model X.prog X.w) X.A X.xe use Qf D s3.heap.objs.size (.error e) s') (.ref e) s' := by
  unfold notedBy
  rw [Y9 cF]
  have Ip : X.A.frames = some (X.env :: X.outer) := by rw [← mS]; exact I3.ok.frames
  have Cg : s'.heap.FunFrames X.base X.stack := I'.stack
  rw [mS] at Cg
  refine Qh (base := X.base) (L := X.env.locals) Ip Cg iT x' fun h1 T1 k1 x1 z1 => ?_
  rw [← mS] at k1
  obtain ⟨m, hn, _⟩ := I'.loc
  have hn : s'.heap.Ns ce.locals m := hn
  rw [cL] at hn
  have zI : h1.Ns s3.heap.objs.size m := by
    obtain ⟨o, es, ep, ho, hd, r⟩ := hn
    obtain ⟨sl, e1⟩ := k1.any ho fun z => (by
      obtain ⟨vs, e1⟩ := LQ x' _ z o ho
      rw [hd] at e1
      cases e1)
    exact ⟨_, es, ep, e1, hd, r⟩
  refine ⟨m, zI, fun h2 sb gK _ => ?_⟩
  have uX : ∀ b, s'.heap.get? b = none → b ∉ fp := fun b z hb => by
    obtain ⟨o, ho⟩ := pL b hb
    have := (I'.pin (b, o) (bE _ ho)).1
    rw [z] at this
    cases this
  have fT : s3.heap.get? T1 = none ∧ H' T1 = none := by
    rcases z1 with z1 | z1
    · exact ⟨vO (ex := fp) I'.base z1 (uX T1 z1), AZ I'.hok z1⟩
    · exact ⟨(fr T1 (aA _ z1)).1, (fr T1 (aA _ z1)).2.1⟩
  have zX : s3.heap.get? s3.heap.objs.size = none := Heap.get?_none_of_le (aI _)
  have HC : H' s3.heap.objs.size = none := by
    have z : H' ce.locals = none := I'.free
    rw [cL] at z
    exact z
  have k2 : Kept [s3.heap.objs.size] [] h1 h2 := ⟨fun b o e1 n _ => (sb.2 b fun z => n (by simp [z])).trans e1, fun b o _ _ z => cJ z (by simp)⟩
  have x2 : i8 h2 e T1 (.ref C0) (rawInt X.env.locals) := by
    obtain ⟨oe, vs, oT, ts, a0, e1, e2, e3, e4, e5, e6, e7, e8⟩ := x1
    obtain ⟨oc, es, ep, Cw, SS, _⟩ := zI
    have ne : ∀ b o ws, h1.get? b = some o → o.data = .fields ws → b ≠ s3.heap.objs.size := fun b o ws Tt Tq z => by
      rw [z, Cw] at Tt
      cases Tt
      rw [SS] at Tq
      cases Tq
    exact ⟨oe, vs, oT, ts, a0, (sb.2 _ (ne _ _ _ e1 e3)).trans e1, e2, e3, e4, e5, (sb.2 _ (ne _ _ _ e6 e7)).trans e6, e7, e8⟩
  have x2' := x2
  obtain ⟨oe, vs, oT, ts, a0, e1, e2, e3, e4, e5, e6, e7, e8⟩ := x2'
  unfold PySem.passOn
  refine b8 (wpAny_field (s := { s' with heap := h2 }) e1 e3 e4 ?_)
  rw [aa (show ¬ ((Value.ref T1 == Value.none) = true) from by simp)]
  refine b8 (flight (s := { s' with heap := h2 }) x2 fun h3 k3 x3 => wpAny_throw ?_)
  have eT : ∀ b ∈ [e, T1], s3.heap.get? b = none ∧ H' b = none := fun b hb => by
    have hb : b = e ∨ b = T1 := by simpa using hb
    rcases hb with rfl | rfl
    · exact ⟨(fr b (by simp)).1, (fr b (by simp)).2.1⟩
    · exact fT
  have u1 := Un.through (fs := frs X.stack) (ex := fp) I'.base k1 (fun b hb => (fr b hb).1) (fun b hb => .inl hb)
  have u2 := u1.through k2 (fun b hb => by have : b = s3.heap.objs.size := by simpa using hb
                                           rw [this]; exact zX) (fun b hb => cJ hb (by simp))
  have u3 := u2.through k3 (fun b hb => by have : b = T1 := by simpa using hb
                                           rw [this]; exact fT.1) (fun b hb => cJ hb (by simp))
  have o1 := I'.hok.through k1 (fun b hb => (fr b hb).2.1) I'.yf
  have o2 := o1.through k2 (fun b hb => by have : b = s3.heap.objs.size := by simpa using hb
                                           rw [this]; exact HC) (fun b hb => cJ hb (by simp))
  have o3 := o2.through k3 (fun b hb => by have : b = T1 := by simpa using hb
                                           rw [this]; exact fT.2) (fun b hb => cJ hb (by simp))
  have I4 : Inv X pins σ H' { s' with heap := h3 } := I3.BO (s' := { s' with heap := h3 }) (ch := fp) I'.os u3 o3 I'.bare f3
  refine hX.go e H' _ ⟨pins, σ, [T1], I4, .inr ⟨T1, _, rfl, x3⟩, fun b hb => ?_⟩ q
  obtain ⟨g1, g2⟩ := eT b hb
  have np : ∀ p ∈ X.pn ++ pins, p.1 ≠ b := fun p hp z => by
    have := (I3.pin p hp).1
    rw [z, g1] at this
    cases this
  refine ⟨vO I3.base g1 fun hb => ?_, g2, np⟩
  obtain ⟨o, ho⟩ := hX.ex b hb
  exact np _ (bE _ ho) rfl
def ad3{C0:Addr}{EH:Hp->Prop}(hX:lg X C0 EH)(mS:X.stack=X.env::X.outer)(iT:X.env.frame=some X.env.locals){pins:List (Addr×Obj)}{s:Shared}{σ:St}{H:Hp}{Q:VK}{elt tg iter:Expr}{ifs:List Expr}{scope:Scope}{own:List (Str×Nat)}{pos pos':Pos}{wi:TI}{g:TG}{tt:TT}{te:TE}{use:Option (Value->Sem Unit)}{Qf:Value->Shared->Prop}
  (hc:X.calm=true)(hN:X.N.Nodup)(I:Inv X pins σ H s)(hi:PI X tg iter wi)(ok:uJ X.N X.env.scope scope own)
  (hg:∀(s:Shared) (H:Hp) (C:Addr) (cl:List (Str×Addr)) (fp:List Addr),PG (X.blk s H scope (compEnvC scope cl C X.env) fp) tg g)(ht:∀(s:Shared) (H:Hp) (C:Addr) (cl:List (Str×Addr)) (fp:List Addr),vm (X.blk s H scope (compEnvC scope cl C X.env) fp) ifs tt)
  (he:∀(s:Shared) (H:Hp) (C:Addr) (cl:List (Str×Addr)) (fp:List Addr) (pn:List (Addr×Obj)) (xe:Value->Shared->Prop),lg {X.blk s H scope (compEnvC scope cl C X.env) fp with pn:=pn,xe:=xe} C0 EH->PE {X.blk s H scope (compEnvC scope cl C X.env) fp with pn:=pn,xe:=xe} elt te)(hs:∀x,foldedSetIterable iter X.env x=pure x)
  (h:uN wi g tt te (own.map (·.2)) σ H Q)
  (Ig:∀D C s' m H',Inv X pins σ H' s'->Q (.ref D) H'->s'.heap.Ns C m->lP X pins H' C->compPost (model X.prog X.w) X.A X.xe use Qf (.ref D) C (.ok .next) s'):
  wpAny (model X.prog X.w) X.A (comprehension (.ListComp elt [⟨tg,iter,ifs,0⟩] scope pos) scope X.env pos' (newList []) false (eval iter X.env) use) Qf X.xe s:=by
 have sP:∀y∈scope.names,y.2= .free->∃c,X.env.cells.lookup y.1=some c:=λy hy e=>by
  rcases ok.free y hy e with k|k
  .exact I.ok.has _ (.inl k)
  .exact I.ok.has _ (.inr k)
 refine wpAny_comprehension_free (use:=use) rfl hs (Ko sP) ok.kind (λy hy e=>by rw[ok.uniq y hy,e])
  (dY (hi pins s σ H _ I h) λxv s1 hx=>dY hx λCq s2 h2=>?_)
 obtain⟨it,fp,tn,J,H2,e,I2,T,uO,f2,q⟩:=h2;subst e;refine wpAny_newObj_type (JR ?_) (by show 0<=sizeLine;decide);generalize hD:s2.heap.objs.size=D;have tU:H2 D=none:=I2.hok.fresh (Nat.le_of_eq hD);obtain⟨W,⟨m0,w0⟩,turn⟩:=q D tU;generalize zD:({s2 with heap:=s2.heap.push {cls:=.type "list",data:=.seq ([]:List Value).toArray}}:Shared)=s3;have I3:Inv X pins σ (upd H2 D (.lst [])) s3:=by
  rw[<-zD];refine I2.laid (t':=s2.toks) (λb o e=>b_ _ e) (Nat.le_of_eq hD) ⟨aP _,[],0,.nil,?_⟩;rw[<-hD];exact cu _ rfl
 have h3:s3.heap=s2.heap.push {cls:=.type "list",data:=.seq ([]:List Value).toArray}:=by rw[<-zD]
 have sz:∀b∈fp,b<s2.heap.objs.size:=λb hb=>by
  obtain⟨o,e,_⟩:=T.obj _ _ uO b hb;exact cj e
 have f3:∀b∈fp,lP X pins (upd H2 D (.lst [])) b/\b<s3.heap.objs.size:=λb hb=>by
  have eF:=sz b hb;refine⟨⟨?_,(f2 b hb).2⟩,by rw[h3,Heap.size_push];exact Nat.lt_succ_of_lt eF⟩;rw[eK (by rw[<-hD];exact b5 eF)];exact(f2 b hb).1
 have wN:tn 0 s3.heap:=T.keep _ _ _ uO λb _ o e=>by rw[h3];exact b_ _ e
 have I4:=JY I3 ok hN f3;have pg:=hg s3 (upd H2 D (.lst [])) s3.heap.objs.size (cellsFrom (s3.heap.objs.size+1) scope.names (iB X.env.cells scope.names [])) fp;have pt:=ht s3 (upd H2 D (.lst [])) s3.heap.objs.size (cellsFrom (s3.heap.objs.size+1) scope.names (iB X.env.cells scope.names [])) fp;have pe:=he s3 (upd H2 D (.lst [])) s3.heap.objs.size (cellsFrom (s3.heap.objs.size+1) scope.names (iB X.env.cells scope.names [])) fp;show codeAny _ _ (.compStart (.ListComp elt [⟨tg,iter,ifs,0⟩] scope pos) 0 (.ref it) (.ref D) (compEnvC scope (cellsFrom (s3.heap.objs.size+1) scope.names (iB X.env.cells scope.names [])) s3.heap.objs.size X.env)) (compPost (model X.prog X.w) X.A X.xe use Qf (.ref D) s3.heap.objs.size) {s3 with heap:=pushCells (s3.heap.push {cls:=.type "dict",data:=.dict #[]}) scope.names};have uX:∀b∈fp,(upd H2 D (.lst [])) b=none:=λb hb=>(f3 b hb).1.1;generalize zP:compEnvC scope (cellsFrom (s3.heap.objs.size+1) scope.names (iB X.env.cells scope.names [])) s3.heap.objs.size X.env=ce at I4 pg pt pe ⊢;have cL:ce.locals=s3.heap.objs.size:=by subst zP;rfl
 generalize hH3:upd H2 D (.lst [])=H3 at I3 I4 pg pt pe w0 uX f3;generalize HB:({s3 with heap:=pushCells (s3.heap.push {cls:=.type "dict",data:=.dict #[]}) scope.names}:Shared)=s4 at I4 ⊢;have zo:tn 0 s4.heap:=T.keep _ _ _ wN λb _ o e=>by rw[<-HB];exact pushCells_keeps _ _ _ _ (b_ _ e)
 have oY:∀{σ':St} {H':Hp} {s':Shared},Inv (X.blk s3 H3 scope ce fp) [] σ' H' s'->(∀b∈fp,H' b=none)->∀b∈fp,lP (X.blk s3 H3 scope ce fp) [] H' b:=λ{σ' H' s'} I' hn b hb=>
  ⟨hn b hb,(I'.ok.ve b hb).1,I'.ok.uL b hb,.inl hb,λx c e=>(I'.ok.ve b hb).2 x c e,λp hp=>cJ (show p∈([]:List (Addr×Obj))++[]from hp) (by simp)⟩
 have loop:codeAny (model X.prog X.w) X.A (.compLoop (.ListComp elt [⟨tg,iter,ifs,0⟩] scope pos) 0 (.ref it) (.ref D) ce) (compPost (model X.prog X.w) X.A X.xe use Qf (.ref D) s3.heap.objs.size) s4:=by
  refine JG (λn s'=>∃i H',Inv (X.blk s3 H3 scope ce fp) [] (wipe σ (own.map (·.2))) H' s'/\tn i s'.heap/\(∀b∈fp,H' b=none)/\W i n H') ?_ m0 ⟨0,H3,I4,zo,uX,w0⟩;rintro n s5 ⟨i,H5,I5,rM,n5,w5⟩;rcases turn i n H5 w5 with⟨stop,qq⟩|⟨go,Nx,Ih,step⟩
  .have td:=T.done (X.blk s3 H3 scope ce fp) rfl rfl rfl hc i [] s5 _ H5 (λ_ _=>False) I5 (oY I5 n5) rM stop;refine nH td λr s6 ⟨hr,I6⟩=>?_;subst hr;have I7:Inv X pins σ H5 s6:=I3.BO (ch:=fp) I6.os I6.base I6.hok I6.bare λb hb=>⟨(f3 b hb).1.2.2.2.1,(f3 b hb).1.2.1,(f3 b hb).1.2.2.2.2.1,(f3 b hb).1.2.2.2.2.2⟩;have nC:H5 s3.heap.objs.size=none:=by
    have z:H5 ce.locals=none:=I6.free;rw[cL]at z;exact z
   obtain⟨m,hn,_⟩:=I6.loc;have hn:s6.heap.Ns ce.locals m:=hn;rw[cL]at hn;exact Ig D s3.heap.objs.size s6 m H5 I7 qq hn (I3.sW (aI _) nC)
  .have ti:=T.item (X.blk s3 H3 scope ce fp) rfl rfl rfl hc i [] s5 _ H5 (λ_ _=>False) I5 (oY I5 n5) rM go;refine nH ti λr s6 ⟨u,hr,h6⟩=>?_;subst hr;refine nH h6 λ_ s7 ⟨x,H7,I7,r7,y7,rL,n7⟩=>?_;have IM:=I7.pinned (oY I7 n7) (T.obj _ _ rL);refine nH (pg _ s7 _ H7 x u _ IM r7 (step x H7 y7)) λ_ s8 ⟨qG,H8,I8,zC,q8⟩=>?_;refine nH (pt _ s8 qG H8 _ I8 q8) λb s9 ⟨H9,I9,q9⟩=>?_;have fin:∀{s':Shared} {H':Hp},Inv (X.blk s3 H3 scope ce fp) ([]++qk fp s7.heap) qG H' s'->Nx H'->∃m,m<n/\∃i H',Inv (X.blk s3 H3 scope ce fp) [] (wipe σ (own.map (·.2))) H' s'/\tn i s'.heap/\(∀b∈fp,H' b=none)/\W i m H':=λ{s' H'} I' nx=>by
    obtain⟨m',hm,w'⟩:=Ih H' nx;have zb:∀b∈fp,∀o,s7.heap.get? b=some o->s'.heap.get? b=some o/\H' b=none:=λb hb o e=>
     let z:=I'.pin (b,o) (bD _ (bD _ (vC hb e)))
     ⟨z.1,z.2.1⟩
    have hl:(wipe σ (own.map (·.2))).length=qG.length:=by rw[<-zC,Am]
    refine⟨m',hm,i+1,H',(I'.x_ (pins:=[])).weak hl (λj v e=>?_),T.keep _ _ _ rL λb hb o e=>(zb b hb o e).1,λb hb=>?_,w'⟩
    .rw[<-zC]at e;exact(AA e).1
    .obtain⟨o,e,_⟩:=T.obj _ _ rL b hb;exact(zb b hb o e).2
   cases b with
   |false=>
    simp only[Bool.false_eq_true,if_false]at q9 ⊢;exact fin I9 q9
   |true=>
    simp only[if_true]at q9 ⊢;have xk:lg {X.blk s3 H3 scope ce fp with pn:=qk fp s7.heap,xe:=notedBy (model X.prog X.w) X.A ce (λe s'=>compPost (model X.prog X.w) X.A X.xe use Qf (.ref D) s3.heap.objs.size (.error e) s')} C0 EH:=by
     refine⟨λb hb=>?_,λe H' s' ⟨jf,σ',tr,I',x',fr⟩ qe=>?_⟩
     .obtain⟨o,eo,_⟩:=T.obj _ _ rL b hb;exact⟨o,vC hb eo⟩
     .exact ap9 hX mS iT I3 (λb hb=>⟨(f3 b hb).1.2.2.2.1,(f3 b hb).1.2.1,(f3 b hb).1.2.2.2.2.1,(f3 b hb).1.2.2.2.2.2⟩) (λb hb=>let⟨o,eo,_⟩:=T.obj _ _ rL b hb;⟨o,vC hb eo⟩) cL (by subst zP;rfl) I' x' fr qe
    have I9':=I9.turn (A:=X.A) (c:=X.calm) (E:=notedBy (model X.prog X.w) X.A ce (λe s'=>compPost (model X.prog X.w) X.A X.xe use Qf (.ref D) s3.heap.objs.size (.error e) s')) (pn:=qk fp s7.heap) (jf:=[]) rfl I9.ok.hd (λp hp=>by simpa using hp);refine dY (pe _ _ xk [] s9 qG H9 _ I9' q9) λz wQ ⟨yv,TU,RU,Hg,acc,GN,Gw,nx⟩=>?_;have IQ:Inv (X.blk s3 H3 scope ce fp) ([]++qk fp s7.heap) qG TU wQ:=RU.turn (A:=X.A) (c:=X.calm) (E:=λ_ _=>False) (pn:=[]) (jf:=[]++qk fp s7.heap) rfl RU.ok.hd (λp hp=>by simpa using hp);exact Oj (X:=X.blk s3 H3 scope ce fp) IQ GN Gw Hg λG0 IP=>fin IP nx
 exact codeAny_compStart_list loop (T.self X.A 0 _ _ _ zo loop)
def YR{C0:Addr}{EH:Hp->Prop}(hX:lg X C0 EH)(mS:X.stack=X.env::X.outer)(iT:X.env.frame=some X.env.locals){i:Nat}{y:Str}{py:Pos}{elt tg iter:Expr}{ifs:List Expr}{scope:Scope}{own:List (Str×Nat)}{pos yU:Pos}{wi:TI}{g:TG}{tt:TT}{te:TE}(hc:X.calm=true)(hN:X.N.Nodup)(hy:X.N[i]? =some y)(zA:X.env.scope.names.lookup y=some .local)
  (Hz:swapsWith (.ListComp elt [⟨tg,iter,ifs,0⟩] scope pos) (some (.Name y py)) yU.line X.env=pure true)(hi:PI X tg iter wi)(ok:uJ X.N X.env.scope scope own)
  (hg:∀(s:Shared) (H:Hp) (C:Addr) (cl:List (Str×Addr)) (fp:List Addr),PG (X.blk s H scope (compEnvC scope cl C X.env) fp) tg g)(ht:∀(s:Shared) (H:Hp) (C:Addr) (cl:List (Str×Addr)) (fp:List Addr),vm (X.blk s H scope (compEnvC scope cl C X.env) fp) ifs tt)
  (he:∀(s:Shared) (H:Hp) (C:Addr) (cl:List (Str×Addr)) (fp:List Addr) (pn:List (Addr×Obj)) (xe:Value->Shared->Prop),lg {X.blk s H scope (compEnvC scope cl C X.env) fp with pn:=pn,xe:=xe} C0 EH->PE {X.blk s H scope (compEnvC scope cl C X.env) fp with pn:=pn,xe:=xe} elt te)(hs:∀x,foldedSetIterable iter X.env x=pure x:=by intro _;rfl):
  PS X (.Assign [.Name y py] (.ListComp elt [⟨tg,iter,ifs,0⟩] scope pos) yU) (yT (uN wi g tt te (own.map (·.2))) (rB i)):=by
 intro pins s σ H D I h;rw[exec_Assign_Name_used _ _ _ _ Hz];refine b8 (wpAny_standAt (b8 ?_));show wpAny _ X.A (do let _ <-comprehension (.ListComp elt [⟨tg,iter,ifs,0⟩] scope pos) scope X.env (firstIterPos [⟨tg,iter,ifs,0⟩] pos) (newList []) false (eval iter X.env) (some (assign (.Name y py) X.env))) _ _ s;have h:uN wi g tt te (own.map (·.2)) σ H (λx H1=>rB i x σ H1 D.nx):=h;refine b8 (dY (ad3 (Qf:=λ_ s'=>SP X pins D .next s') hX mS iT hc hN I hi ok hg ht he hs h λL C s' m H' I' q hn f=>?_) λ_ s' hq=>b9 (b9 hq));show wpAny _ _ (assign (.Name y py) X.env (.ref L)) _ _ _;refine wpAny_assign_Name (D8 (v:=V.ref L) I' hN hy (.inl zA) rfl (λs2 I2 ⟨a,sb,ha⟩=>?_) (.inr zA));obtain⟨f0,f1,f2,f3,f4,f5⟩:=f;have Ib:C≠a:=by
  rcases ha with z|z
  .rw[z];exact f1
  .exact λe=>f4 y a z e.symm
 refine⟨m,hn.sameBut sb Ib,λh3 GZ=>?_⟩;exact⟨_,H',I2.turned (t':=s2.toks) (λb o hb e=>(GZ.2 b hb).trans e) f0 f1 f3 f4 f5,q⟩
end
section
variable {X:Cx}
inductive au1(K:b6)(x:V)(xs:List V)(H:Hp)(Q:VK):Prop|m(a:Addr)(ys:List V)(y:V)(_:x=V.ref a)(_:xs=[y])(_:cU K H a ys)(_:jO y=true)(_:ys.all jO=true)(_:Q (.int ((ys.countP λz=>iW z y:Nat):Int)) H)
theorem Kl{x:V}:∀{xs:List V} {us:List Value},Vals xs us->xs.all jO=true->us.countP (jJ x)=xs.countP λy=>iW y x
 |_,_,.nil,_=>rfl
 |y::xs,u::us,.cons r t,f=>by
  rw[bu,aE]at f;rw[List.countP_cons,List.countP_cons,yz r f.1,Kl t f.2]
def qX:xM X "list.count" (au1 X.K):=by
 intro pins s σ H x xs v us Q I rx Hf h;obtain⟨a,ys,y,rfl,rfl,hs,fy,xD,q⟩:=h;cases rx;cases Hf with
 |cons ry rt=>
  rename_i uy ut;cases rt;obtain⟨c7,rv,⟨⟨cls,dd,data,sl⟩,n,ho,hc,HY,hd⟩,hlen⟩:=I.list hs;simp only at hc hd;subst hc hd;refine call_meets cN ⟨_,ho,rfl⟩ PySem.F.entry_list_count (PySem.F.args_list_count_2 _ _) (SeqAt.list_countAt a c7.toArray n dd sl uy (jJ y)) ⟨ho,λu' Hy=>uq ry fy rv xD u' (by simpa using Hy),?_⟩;rw[<-Kl rv xD]at q;exact⟨.int _,H,I.tok _,⟨s.toks,rfl⟩,q⟩
inductive aL3(K:b6)(x:V)(y:V)(H:Hp)(Q:VK):Prop|m(d es)(_:Dp K H x d)(_:Dp K H y (.tuple es))(_:SeqAt.shaped d=true)(_:SeqAt.shaped (.tuple es)=true)(_:Q (.bl (es.any λe=>PyData.eqv e d)) H)
def av1(hu:X.A.units+65<cLine):fV X (compareOp .In) (aL3 X.K):=by
 intro pins s σ H x y v u Q I rx ry h;obtain⟨d,es,hd,he,sd,se,q⟩:=h;obtain⟨as,r1⟩:=Dp.reads I d x v hd rx;obtain⟨bs,r2⟩:=Dp.reads I _ y u he ry;cases he with
 |tup a b=>
  cases ry;exact SeqAt.in_tuple_reads r2 r1 (SeqAt.canLay_of_shaped se) (SeqAt.canLay_of_shaped sd) (PyProof.Rows.room_in_shaped sd hu) ⟨.bl _,H,I,rfl,q⟩
end
structure Own(P:Program)(w:World)(K:b6)(mg:Str->Option Value)(base:Heap)(CX:jx)(k:Nat)(x:Str)(ps:List Str)(sp:Sp):Prop where
 ex:∃(f:Addr) (fd:FuncData),mg x=some (.ref f)/\keepIn K (.ref f)=true/\Binds K fd ps []/\dJ P w K mg base CX k f fd ps sp
section
variable {X:Cx}{CX:jx}{k:Nat}{ps:List Str}{sp:Sp}{E:XK}{x:Str}{p pos:Pos}{e:Expr}{es:List Expr}{t:TA}{C:Addr}
def kg(O:Own X.prog X.w X.K X.mg X.base CX k x ps sp)(hr:gU k X.A)(hx:Passes CX X E)(ha:PA X (e::es) t)(hg:Gl X x:=by rfl)(k9:(x==("__debug__":Str))=false:=by decide)
  (he:starEach (e::es) X.env=(false,eval e X.env)::starEach es X.env:=by rfl)(fh:(backTo pos (starEach es X.env)).any (·.1)=false:=by rfl):PE X (.Call (.Name x p) (e::es) [] pos) (wk sp [] E t):=by
 obtain⟨f,fd,h1,h2,h3,h4⟩:=O.ex;exact ai7 h4 hr hg h1 h2 h3 .nil hx ha k9 he fh
structure jD(P:Program)(w:World)(K:b6)(mg:Str->Option Value)(base:Heap)(CX:jx)(k:Nat)(C:Addr)(x:Str)(ps:List Str)(sp:Sp):Prop where
 ex:∃(f:Addr) (fd:FuncData),mg x=some (.ref C)/\Mk K C f/\Binds K fd ps []/\dJ P w K mg base CX k f fd ps sp
def au8(O:jD X.prog X.w X.K X.mg X.base CX k C x ps sp)(hr:gU (k+1) X.A)(hx:Passes CX X E)(ha:PA X (e::es) t)(hg:Gl X x:=by rfl)(k9:(x==("__debug__":Str))=false:=by decide)
  (he:starEach (e::es) X.env=(false,eval e X.env)::starEach es X.env:=by rfl)(fh:(backTo pos (starEach es X.env)).any (·.1)=false:=by rfl):PE X (.Call (.Name x p) (e::es) [] pos) (yE C sp [] E t):=by
 obtain⟨f,fd,h1,h2,h3,h4⟩:=O.ex;exact ai6 h2 h4 hr hg h1 h3 .nil hx ha k9 he fh
def dF{m:Nat}(O:Own X.prog X.w X.K X.mg X.base cY k x ps sp)(r:gU m X.A)(ha:PA X (e::es) t)(j:k<=m:=by decide)(hg:Gl X x:=by rfl)(k9:(x==("__debug__":Str))=false:=by decide)(he:starEach (e::es) X.env=(false,eval e X.env)::starEach es X.env:=by rfl)(fh:(backTo pos (starEach es X.env)).any (·.1)=false:=by rfl):PE X (.Call (.Name x p) (e::es) [] pos) (wk sp [] E0 t):=kg O (r.mono j) Qe ha hg k9 he fh
def iQ{m:Nat}(O:jD X.prog X.w X.K X.mg X.base cY k C x ps sp)(r:gU m X.A)(ha:PA X (e::es) t)(j:k+1<=m:=by decide)(hg:Gl X x:=by rfl)(k9:(x==("__debug__":Str))=false:=by decide)(he:starEach (e::es) X.env=(false,eval e X.env)::starEach es X.env:=by rfl)(fh:(backTo pos (starEach es X.env)).any (·.1)=false:=by rfl):PE X (.Call (.Name x p) (e::es) [] pos) (yE C sp [] E0 t):=au8 O (r.mono j) Qe ha hg k9 he fh
end
structure Plain(J:It)(xs:List V):Prop where
 go:∀i H,i<xs.length->J.go i H
 jS:∀i H x H',J.jS i H x H'->H'=H/\(i<xs.length->xs[i]? =some x)
 stop:∀i H,xs.length<=i->J.stop i H
def YT(z:Str):Plain (IL z) (z.cps.toList.map λc=>V.str ⟨#[c]⟩):=by
 refine⟨λi H h=>?_,λi H x H' h=>?_,λi H h=>?_⟩
 .rw[az,bR]at h;exact h
 .obtain⟨e,c,h1,h2⟩:=h;refine⟨e,λ_=>?_⟩;rw[aR,Array.getElem?_toList,h1,h2];rfl
 .rw[az,bR]at h;exact h
def X8(d_:List (Key×V)):Plain (Itm d_) (d_.map λp=>kV p.1):=by
 refine⟨λi H h=>?_,λi H x H' h=>?_,λi H h=>?_⟩
 .rw[az]at h;exact h
 .obtain⟨e,k,v,h1,h2⟩:=h;refine⟨e,λ_=>?_⟩;rw[aR,h1,h2];rfl
 .rw[az]at h;exact h
def ad2{J:It}{xs:List V}(hJ:Plain J xs){g:TG}{tt:TT}{te:TE}{vs:List Nat}{σ:St}{H1:Hp}{D:Addr}{Qd:Hp->Prop}(Pv:Nat->Hp->Prop)(h0:Pv 0 (upd H1 D (.lst [])))
  (hs:∀i x H,xs[i]? =some x->Pv i H->g x (wipe σ vs) H λσ2 H2=>wipe σ2 vs=wipe σ vs/\tt σ2 H2 λb H3=>
   if b=true then te σ2 H3 λy H4=>∃acc,H4 D=some (.lst acc)/\acc.length<sizeLine/\Pv (i+1) (upd H4 D (.lst (acc++[y])))else Pv (i+1) H3)(hd:∀H,Pv xs.length H->Qd H):
  ∃W:Nat->Nat->Hp->Prop,(∃m,W 0 m (upd H1 D (.lst [])))/\∀i m H,W i m H->
   (J.stop i H/\Qd H)\/(J.go i H/\∃Nx:Hp->Prop,(∀H',Nx H'->∃m',m'<m/\W (i+1) m' H')/\∀x H',J.jS i H x H'->g x (wipe σ vs) H' λσ2 H2=>wipe σ2 vs=wipe σ vs/\tt σ2 H2 λb H3=>
    if b=true then te σ2 H3 λy H4=>∃acc,H4 D=some (.lst acc)/\acc.length<sizeLine/\Nx (upd H4 D (.lst (acc++[y])))else Nx H3):=by
 refine⟨λi m H=>m=xs.length-i/\i<=xs.length/\Pv i H,⟨xs.length,by simp,aP _,h0⟩,?_⟩;rintro i m H ⟨rfl,hi,p⟩
 by_cases eF:i<xs.length
 .refine .inr ⟨hJ.go i H eF,Pv (i+1),λH' p'=>⟨xs.length-(i+1),(),rfl,eF,p'⟩,λx H' y=>?_⟩;obtain⟨e,y2⟩:=hJ.jS i H x H' y;have y3:=y2 eF;rw[e];exact hs i x _ y3 p
 .have e:i=xs.length:=();subst e;exact .inl ⟨hJ.stop _ H (aI _),hd H p⟩
def Zm{J:It}{xs:List V}(hJ:Plain J xs){g:TG}{tb:TS}{D:Ends}{σ:St}{H:Hp}(Pv:Nat->St->Hp->Prop)(h0:Pv 0 σ H)
  (hs:∀i x σ H,xs[i]? =some x->Pv i σ H->g x σ H λσ2 H2=>tb {D with nx:=Pv (i+1),ct:=Pv (i+1),bk:=D.nx} σ2 H2)(hd:∀σ H,Pv xs.length σ H->D.nx σ H):
  ∃W:Nat->Nat->St->Hp->Prop,(∃m,W 0 m σ H)/\∀i m σ H,W i m σ H->
   (J.stop i H/\D.nx σ H)\/(J.go i H/\∃N:St->Hp->Prop,(∀σ' H',N σ' H'->∃m',m'<m/\W (i+1) m' σ' H')/\∀x H',J.jS i H x H'->g x σ H' λσ2 H2=>tb {D with nx:=N,ct:=N,bk:=D.nx} σ2 H2):=by
 refine⟨λi m σ H=>m=xs.length-i/\i<=xs.length/\Pv i σ H,⟨xs.length,by simp,aP _,h0⟩,?_⟩;rintro i m σ H ⟨rfl,hi,p⟩
 by_cases eF:i<xs.length
 .refine .inr ⟨hJ.go i H eF,Pv (i+1),λσ' H' p'=>⟨xs.length-(i+1),(),rfl,eF,p'⟩,λx H' y=>?_⟩;obtain⟨e,y2⟩:=hJ.jS i H x H' y;have y3:=y2 eF;rw[e];exact hs i x σ _ y3 p
 .have e:i=xs.length:=();subst e;exact .inl ⟨hJ.stop _ H (aI _),hd σ H p⟩
theorem L5:∀l:List Int,PyData.canLayAll0 (l.map PyData.int)=true
 |[]=>rfl
 |_::r=>by
  show(true&&PyData.canLayAll0 (r.map PyData.int))=true;rw[L5 r];rfl
theorem LU:∀l:List Int,PyData.depthAll (l.map PyData.int)=0
 |[]=>rfl
 |_::r=>by
  show max 0 (PyData.depthAll (r.map PyData.int))=0;rw[LU r];rfl
def shaped_ints(l:List Int):SeqAt.shaped (.list (l.map PyData.int))=true:=by
 unfold SeqAt.shaped;show(PyData.canLayAll0 _&&decide (PyData.depthAll _+1<=64))=true;rw[L5,LU];rfl
theorem JV:∀a b:List Int,PyData.eqvAll (a.map PyData.int) (b.map PyData.int)=decide (a=b)
 |[],[]=>rfl
 |[],_::_=>rfl
 |_::_,[]=>rfl
 |x::a,y::b=>by
  show((x==y)&&PyData.eqvAll (a.map PyData.int) (b.map PyData.int))=_;rw[JV a b]
  by_cases h:x=y
  .subst h;simp
  .simp[h]
def mh(a b:List Int):PyData.eqv (.list (a.map PyData.int)) (.list (b.map PyData.int))=decide (a=b):=JV a b
theorem Ke{K:b6}{H:Hp}:∀l:List Int,sQ K H (l.map V.int) (l.map PyData.int)
 |[]=>.nil
 |x::r=>.cons (.int x) (Ke r)
def iE{K:b6}{H:Hp}{a:Addr}{l:List Int}(h:cU K H a (l.map V.int)):Dp K H (.ref a) (.list (l.map PyData.int)):=.lst h (Ke l)
theorem cR.upd{H:Hp}{p:Addr}{o:HO}(h:H p=none):cR H (upd H p o):=λb u e=>by
 rw[eK (fE e h)];exact e
structure yO(K:b6)(mg:Str->Option Value)(x:Str)(st:Stmt)(ps:List Str):Prop where
 ex:∃(f:Addr) (fd:FuncData),mg x=some (.ref f)/\dM K x x st f fd/\Binds K fd ps []/\∀(s:Shared) (us:List Value),us.length=ps.length->BindsTo s fd ⟨us,[]⟩ (ps.zip us)
section
variable {K:b6}{h:Heap}{mg:Str->Option Value}
def LV{x:Str}{st:Stmt}{ps:List Str}{f:Addr}{oc:Value}{od an:Option Addr}{jU:Array (Option Value)}{kV doc pm c8 ct:Value}(X:K.In h)(G:h.Ns mainGlobals mg)
  (a:nsIn K mainGlobals x=some (some (.ref f)))(l:K.lookup f=some ⟨oc,od,.func (fnOf x x (qj st) (gH st) (c9 st) .none kV doc pm an c8 ct),jU⟩)
  (c:codeIn K c8 x=true)(k:keepIn K (.ref f)=true)
  (b:∀(kV doc pm:Value) (an:Option Addr) (c8 ct:Value) (us:List Value),us.length=ps.length->bindArgs (fnOf x x (qj st) (gH st) (c9 st) .none kV doc pm an c8 ct) ⟨us,[]⟩=pure (ps.zip us)):yO K mg x st ps:=
 ⟨f,_,mg_of X G a,BC l c k,(BC (st:=st) l c k).binds b,λ_ us hu=>.of_eq (b kV doc pm an c8 ct us hu)⟩
def yO.own{P:Program}{w:World}{base:Heap}{CX:jx}{k:Nat}{x:Str}{st:Stmt}{ps:List Str}{sp:Sp}(D:yO K mg x st ps)(ok:∀(f:Addr) (fd:FuncData),dM K x x st f fd->dJ P w K mg base CX k f fd ps sp):Own P w K mg base CX k x ps sp:=by
 obtain⟨f,fd,h1,h2,h3,_⟩:=D.ex;exact⟨f,fd,h1,h2.kp,h3,ok f fd h2⟩
structure yP(K:b6)(mg:Str->Option Value)(x q:Str)(st:Stmt)(ps:List Str)(C:Addr):Prop where
 mgC:mg x=some (.ref C)
 cl:lq K C
 ex:∃(f:Addr) (fd:FuncData),Mk K C f/\dM K "__init__" q st f fd/\Binds K fd ps []
def ae9{x q:Str}{st:Stmt}{ps:List Str}{C f:Addr}{oc:Value}{od an:Option Addr}{jU:Array (Option Value)}{kV doc pm c8 ct:Value}(X:K.In h)(G:h.Ns mainGlobals mg)
  (a:nsIn K mainGlobals x=some (some (.ref C)))(a1:findIn K (.ref C) "__init__"=some (some (.ref f)))(i1:isFn K (.ref f)=true)
  (l:K.lookup f=some ⟨oc,od,.func (fnOf "__init__" q (qj st) (gH st) (c9 st) .none kV doc pm an c8 ct),jU⟩)
  (c:codeIn K c8 q=true)(k:keepIn K (.ref f)=true)
  (pg:plainGet K C Str.empty=true)(hd:hasDictIn K C=true)(po:plainOver K C=true)(sa:findIn K (.ref C) "__setattr__"=some (some (.builtin "object.__setattr__")))(mk:makesIn K C=true)(kc:keepIn K (.ref C)=true)
  (b:∀(kV doc pm:Value) (an:Option Addr) (c8 ct:Value) (us:List Value),us.length=ps.length->bindArgs (fnOf "__init__" q (qj st) (gH st) (c9 st) .none kV doc pm an c8 ct) ⟨us,[]⟩=pure (ps.zip us)):yP K mg x q st ps C:=
 ⟨mg_of X G a,⟨pg,hd,po,sa⟩,f,_,⟨mk,a1,i1,kc⟩,BC l c k,(BC (st:=st) l c k).binds b⟩
def yP.own{P:Program}{w:World}{base:Heap}{CX:jx}{k:Nat}{x q:Str}{st:Stmt}{ps:List Str}{sp:Sp}{C:Addr}(D:yP K mg x q st ps C)(ok:∀(f:Addr) (fd:FuncData),dM K "__init__" q st f fd->dJ P w K mg base CX k f fd ps sp):jD P w K mg base CX k C x ps sp:=by
 obtain⟨f,fd,h2,h3,h4⟩:=D.ex;exact⟨f,fd,D.mgC,h2,h4,ok f fd h3⟩
def aI3{x:Str}{n:Int}{t:Tok}(X:K.In h)(G:h.Ns mainGlobals mg)(a:nsIn K mainGlobals x=some (some (.int n t))):GI mg x n:=⟨t,mg_of X G a⟩
def aI2{x z:Str}{t:Tok}(X:K.In h)(G:h.Ns mainGlobals mg)(a:nsIn K mainGlobals x=some (some (.str z t))):GS mg x z:=⟨t,mg_of X G a⟩
def ar3{x:Str}{c:Addr}{od:Option Addr}{c7:Array Value}{n:Nat}{jU:Array (Option Value)}{xs:List V}(X:K.In h)(G:h.Ns mainGlobals mg)(a:nsIn K mainGlobals x=some (some (.ref c)))
  (l:K.lookup c=some ⟨.type "tuple",od,.seq c7 n,jU⟩)(z:c7.size<=sizeLine)(v:Vals xs c7.toList):∃a,mg x=some (.ref a)/\∀H,e_ K H a xs:=
 ⟨c,mg_of X G a,λ_=>.inr ⟨_,c7,n,l,rfl,rfl,z,v⟩⟩
def aG7{x:Str}(X:K.In h)(G:h.Ns mainGlobals mg)(a:nsIn K mainGlobals x=some none):mg x=none:=mg_none_of X G a
end
def yd{K:b6}{a:Addr}{xs:List V}{g:TG}{tb:TS}{D:Ends}{σ:St}{H:Hp}(Pv:Nat->St->Hp->Prop)(h0:Pv 0 σ H)(hl:∀i σ H,i<=xs.length->Pv i σ H->cU K H a xs)
  (hs:∀i x σ H T,xs[i]? =some x->Pv i σ H->H T=none->g (.ref T) σ (upd H T (.tup [.int (i:Nat),x])) λσ2 H2=>tb {D with nx:=Pv (i+1),ct:=Pv (i+1),bk:=D.nx} σ2 H2)
  (hd:∀σ H,Pv xs.length σ H->D.nx σ H):
  ∃W:Nat->Nat->St->Hp->Prop,(∃m,W 0 m σ H)/\∀i m σ H,W i m σ H->
   ((tZ K a).stop i H/\D.nx σ H)\/((tZ K a).go i H/\∃N:St->Hp->Prop,(∀σ' H',N σ' H'->∃m',m'<m/\W (i+1) m' σ' H')/\∀x H',(tZ K a).jS i H x H'->g x σ H' λσ2 H2=>tb {D with nx:=N,ct:=N,bk:=D.nx} σ2 H2):=by
 refine⟨λi m σ H=>i+m=xs.length/\Pv i σ H,⟨xs.length,Nat.zero_add _,h0⟩,?_⟩;rintro i m σ H ⟨e,p⟩;have q:=hl i σ H () p;cases m with
 |zero=>
  obtain rfl:i=xs.length:=();exact .inl ⟨⟨xs,q,aI _⟩,hd σ H p⟩
 |succ m=>
  have eF:i<xs.length:=();refine .inr ⟨⟨xs,xs[i],q,br eF⟩,Pv (i+1),λσ' H' p'=>⟨m,Nat.lt_succ_self m,(),p'⟩,?_⟩;rintro v H' ⟨T,x,rfl,hT,rfl,hx⟩;exact hs i x σ H T (hx xs q) p hT
inductive A2{α β:Type}(R:α->β->Prop):List α->List β->Prop
 |nil:A2 R [] []
 |cons {x:α} {y:β} {xs:List α} {ys:List β}:R x y->A2 R xs ys->A2 R (x::xs) (y::ys)
theorem A2.imp{α β:Type}{R S:α->β->Prop}(f:∀x y,R x y->S x y):∀{xs:List α} {ys:List β},A2 R xs ys->A2 S xs ys
 |_,_,.nil=>.nil
 |_,_,.cons h t=>.cons (f _ _ h) (A2.imp f t)
theorem A2.snoc{α β:Type}{R:α->β->Prop}{x:α}{y:β}(h:R x y):∀{xs:List α} {ys:List β},A2 R xs ys->A2 R (xs++[x]) (ys++[y])
 |_,_,.nil=>.cons h .nil
 |_,_,.cons a t=>.cons a (A2.snoc h t)
theorem A2.length{α β:Type}{R:α->β->Prop}:∀{xs:List α} {ys:List β},A2 R xs ys->xs.length=ys.length
 |_,_,.nil=>rfl
 |_,_,.cons _ t=>by rw[aK,aK,A2.length t]
theorem A2.get{α β:Type}{R:α->β->Prop}:∀{xs:List α} {ys:List β} {i:Nat} {x:α},A2 R xs ys->xs[i]? =some x->∃y,ys[i]? =some y/\R x y
 |_,_,i,_,.nil,h=>by simp at h
 |_,_,0,_,.cons a _,h=>⟨_,rfl,(aH h)▸a⟩
 |_,_,i+1,_,.cons _ t,h=>A2.get (i:=i) t h
def cR.off{H H':Hp}{p:Addr}{o:HO}(s:cR H H')(h:H p=none):cR H (L2.upd H' p o):=λb x e=>by
 rw[eK (fE e h)];exact s b x e
theorem cR.ins{H H':Hp}{x dx C:Addr}{fs:List (Str×V)}(s:cR H H')(hx:H' x=none)(hd:H' dx=none):cR H (L2.upd (L2.upd (L2.upd H' dx (.own x)) x (.ins C dx [])) x (.ins C dx fs)):=λb o e=>by
 have:=s b o e;rw[eK (fE this hx),eK (fE this hx),eK (fE this hd)];exact this
def Xq(x v:Value):checkTypeCall "enumerate" ⟨[x],[("start",v)]⟩=pure Unit.unit:=by kernel_rfl
def Yn(x v:Value):checkBuiltinCall "enumerate.__new__" ⟨[.type "enumerate",x],[("start",v)]⟩=pure Unit.unit:=by kernel_rfl
def an6(o x v:Value):argsOk "object.__init__" ⟨[o,x],[("start",v)]⟩:=by
 unfold argsOk;rw[signature?_of (id:="object.__init__") (n:="__init__".toList.reverse) (o:="object".toList.reverse) (by kernel_rfl) F.owner_object];kernel_rfl
section
variable {P:Program}{w:World}{A:Around}{E:Value->Shared->Prop}{s:Shared}
def Ym{self:Value}{rest:List Value}{kw:List (Str×Value)}{r0:Value}{rs:List Value}(e:rest=r0::rs):Meets (Builtin.«object.__init__» ⟨self::rest,kw⟩) (λ_ R s=>s.TypeIs self "enumerate"/\R (.ok (.ret .none)) s):=by
 refine .of_wp λP w A R s hs=>?_;obtain⟨hT,hq⟩:=hs;have hl:=F.called_enumerate.init.lookup;have hm:=F.called_enumerate.made;have dR:(some "enumerate.__new__" != some "object.__new__")=true:=();subst e
 repeat (any_goals (first |assumption|wp_step))
 exact⟨_,rfl,hq⟩
def aC0(t:Addr)(items:Array Value)(tk:Tok):
  Meets (Builtin.«enumerate.__new__» ⟨[.type "enumerate",.ref t],[("start",.int 1 tk)]⟩) (λ_ R s=>s.heap.IsTuple t items/\
   R (.ok (.ret (.ref (s.heap.objs.size+1))))
    {s with heap:=(s.heap.push {cls:=.type "tuple_iterator",data:=.fields #[.ref t,.int 0 0]}).push {cls:=.type "enumerate",data:=.fields #[.none,.bool false,.ref s.heap.objs.size,rawInt 1,.none,.none]}}):=
 .of_wp λP w A R s0 h=>by
  obtain⟨hh,g,d,tq,os⟩:=s0;obtain⟨hT,h⟩:=h;have aS3:=sub_enumerate;obtain⟨ot,Cv,hct,nt,tM⟩:=id hT;have z:(hh.push {cls:=.type "tuple_iterator",data:=.fields #[.ref t,.int 0 0]}).objs.size=hh.objs.size+1:=Heap.size_push ..;have fin:=h;rw[<-z]at fin
  wp_walk using AutoSeq1.wpAny_loadPart' Cv
  refine wpAny_stack_any λst=>b9 ?_;split
  .rename_i c _ _ _ _ _;cases c==Value.type "enumerate"
   .wp_walk using AutoSeq1.wpAny_loadPart' Cv,wpAny_pyIter_tuple hT
    exact⟨_,rfl,fin⟩
   .wp_walk using AutoSeq1.wpAny_loadPart' Cv,wpAny_pyIter_tuple hT
    exact⟨_,rfl,fin⟩
  .wp_walk using AutoSeq1.wpAny_loadPart' Cv,wpAny_pyIter_tuple hT
   exact⟨_,rfl,fin⟩
def an7{t:Addr}{items:Array Value}{tk:Tok}{Q:Value->Shared->Prop}(hT:s.heap.IsTuple t items)
  (h:∀h',IsEnum h' (s.heap.objs.size+1) s.heap.objs.size 1 .none->h'.IsTupleIter s.heap.objs.size t 0->(∀b o,s.heap.get? b=some o->h'.get? b=some o)->Q (.ref (s.heap.objs.size+1)) {s with heap:=h'}):
  wpAny (model P w) A (call (.type "enumerate") [.ref t] [("start",.int 1 tk)]) Q E s:=by
 have ft:=F.called_enumerate;obtain⟨c0,tl0,hm⟩:=ft.mro;have h1:=ft.notType;have h2:=ft.canCreate;have h3:=ft.made;have h4:=ft.sub;have hct:=Xq (.ref t) (.int 1 tk);refine wpAny_call (codeAny_of_tree (show wpAny _ _ (callAny (.type "enumerate") _) _ _ _ from b9 ⟨Code.quiet_builtin _ (),codeAny_builtin F.entry_type_call ?_⟩));rw[Around.under_plain (weight_type_call_type "enumerate" [.ref t] [("start",.int 1 tk)]) (units_type_call_type _ _ _)]
 repeat (any_goals (first |assumption|wp_step))
 have z:(s.heap.push {cls:=.type "tuple_iterator",data:=.fields #[.ref t,.int 0 0]}).objs.size=s.heap.objs.size+1:=Heap.size_push ..;have he:IsEnum ((s.heap.push {cls:=.type "tuple_iterator",data:=.fields #[.ref t,.int 0 0]}).push {cls:=.type "enumerate",data:=.fields #[.none,.bool false,.ref s.heap.objs.size,rawInt 1,.none,.none]}) (s.heap.objs.size+1) s.heap.objs.size 1 .none:=by
  rw[<-z];exact cu _ rfl
 refine codeAny_mono (codeAny_call_builtin ft.plain F.entry_enumerate_new (wpAny_of_eq (Yn (.ref t) (.int 1 tk)) (aC0 t items tk P w A.in1 (wants (λobj s1=>obj= .ref (s.heap.objs.size+1)/\s1={s with heap:=(s.heap.push {cls:=.type "tuple_iterator",data:=.fields #[.ref t,.int 0 0]}).push {cls:=.type "enumerate",data:=.fields #[.none,.bool false,.ref s.heap.objs.size,rawInt 1,.none,.none]}}) E) s ⟨hT,rfl,rfl⟩))) λr s1 hr=>?_;cases r with
 |error e=>exact hr
 |ok fl=>
  cases fl with
  |ret obj=>
   obtain⟨rfl,rfl⟩:=hr;have hl:=ft.init.lookup;have hb:=ft.init.bind (.ref (s.heap.objs.size+1));have hi:Shared.TypeIs {s with heap:=(s.heap.push {cls:=.type "tuple_iterator",data:=.fields #[.ref t,.int 0 0]}).push {cls:=.type "enumerate",data:=.fields #[.none,.bool false,.ref s.heap.objs.size,rawInt 1,.none,.none]}} (.ref (s.heap.objs.size+1)) "enumerate":=⟨_,he,rfl⟩
   repeat (any_goals (first |assumption|wp_step))
   refine codeAny_mono (codeAny_call_builtin ft.init.plain F.entry_object_init (ft.init.check _ _ _ _ _ _ _ _ hi (an6 _ _ _) (Ym (rest:=[.ref t]) rfl P w A.in1 (wants (λr s2=>r= .none/\s2={s with heap:=(s.heap.push {cls:=.type "tuple_iterator",data:=.fields #[.ref t,.int 0 0]}).push {cls:=.type "enumerate",data:=.fields #[.none,.bool false,.ref s.heap.objs.size,rawInt 1,.none,.none]}}) E) _ ⟨hi,rfl,rfl⟩))) λr2 s2 pH=>?_;cases r2 with
   |error e=>exact pH
   |ok fl2=>
    cases fl2 with
    |ret r=>
     obtain⟨rfl,rfl⟩:=pH;have fin:=h _ he ⟨_,b_ _ (cu _ rfl),rfl,rfl⟩ λb o x=>b_ _ (b_ _ x)
     repeat (any_goals (first |assumption|wp_step))
    |_=>exact pH.elim
  |_=>exact hr.elim
end
section
variable {P:Program}{w:World}{A:Around}{E:Value->Shared->Prop}{s:Shared}
def an5{it t:Addr}{i:Nat}{items:Array Value}{x:Value}{Q:Value->Shared->Prop}(h1:s.heap.IsTupleIter it t i)(h2:s.heap.IsTuple t items)(h3:items[i]? =some x)
  (hQ:∀h',h'.IsTupleIter it t (i+1)->Heap.SameBut it s.heap h'->Q x {s with heap:=h'}):wpAny (model P w) A (Builtin.SmallTypes.nextOf (.ref it)) Q E s:=by
 obtain⟨o1,e1,c1,d1⟩:=id h1;obtain⟨o2,e2,_,n2,d2⟩:=h2;unfold Builtin.SmallTypes.nextOf;refine b8 (wpAny_callSpecial?_slot (name:=Str.ofString "__next__") h1.typeIs F.slot_tuple_iterator_next (wpAny_call_entry F.slot_tuple_iterator_next h1.typeIs F.entry_tuple_iterator_next ?_ (F.args_tuple_iterator_next_1 _)));refine(show wpAny _ _ (field (.ref it) 0 >>= _) _ _ s from b8 (wpAny_field e1 d1 (x:=.ref t) rfl ?_));show wpAny _ _ (if(Value.ref t==Value.none)=true then _ else _) _ _ s;rw[aa (by exact a_)];refine(show wpAny _ _ (field (.ref it) 1 >>= _) _ _ s from b8 (wpAny_field e1 d1 (x:=.int i 0) rfl ?_));refine(show wpAny _ _ (seqItems? (.ref t) >>= _) _ _ s from b8 (wpAny_seqItems e2 d2 ?_));simp only[bZ,h3];refine b8 (wpAny_setField e1 d1 (by simp) (b9 ⟨x,rfl,b9 (hQ _ ⟨_,Heap.get?_update_self _ e1 (Obj.isFreed_of_fields (Obj.data_mapFields d1 _)),(Obj.cls_mapFields ..).trans c1,?_⟩ (Heap.SameBut.update ..))⟩));rw[Obj.data_mapFields d1];simp[rawInt]
def an4{it t:Addr}{i:Nat}{items:Array Value}{Q:Value->Shared->Prop}(hh:A.handled=none)(h1:s.heap.IsTupleIter it t i)(h2:s.heap.IsTuple t items)(h3:items[i]? =none)
  (hE:∀h' e,Heap.ExtBut it s.heap h'->(∃o,h'.get? e=some o/\o.cls= .type "StopIteration")->E (.ref e) {s with heap:=h'}):wpAny (model P w) A (Builtin.SmallTypes.nextOf (.ref it)) Q E s:=by
 obtain⟨o1,e1,c1,d1⟩:=id h1;obtain⟨o2,e2,_,n2,d2⟩:=h2;unfold Builtin.SmallTypes.nextOf;refine b8 (wpAny_callSpecial?_slot (name:=Str.ofString "__next__") h1.typeIs F.slot_tuple_iterator_next (wpAny_call_entry F.slot_tuple_iterator_next h1.typeIs F.entry_tuple_iterator_next ?_ (F.args_tuple_iterator_next_1 _)));refine(show wpAny _ _ (field (.ref it) 0 >>= _) _ _ s from b8 (wpAny_field e1 d1 (x:=.ref t) rfl ?_));show wpAny _ _ (if(Value.ref t==Value.none)=true then _ else _) _ _ s;rw[aa (by exact a_)];refine(show wpAny _ _ (field (.ref it) 1 >>= _) _ _ s from b8 (wpAny_field e1 d1 (x:=.int i 0) rfl ?_));refine(show wpAny _ _ (seqItems? (.ref t) >>= _) _ _ s from b8 (wpAny_seqItems e2 d2 ?_));simp only[bZ,h3];refine b8 (wpAny_rule (b8 (wpAny_setField e1 d1 (by simp) (show wpAny _ _ (newExc (.type "StopIteration") [] >>= _) _ _ _ from b8 ?_))));simp only[newExc,newTuple];refine b8 (wpAny_newObj_type (b8 (m:=firstArgMember _ _) (wpAny_of_eq (a:=Value.none) (by first |rfl|(simp only[firstArgMember];rfl)) (wpAny_newObj_type ?_ (by size_fits)))) (by size_fits));simp only[raiseNew];refine b8 (wpAny_handled ?_)
 first
  |rw[show A.in1.handled=none from hh]
  |rw[hh]
 exact b8 (b9 (wpAny_throw (hE _ _ (((Heap.SameBut.update ..).extBut.push _).push _) ⟨_,cu _ rfl,rfl⟩)))
def an3{e it t:Addr}{i:Nat}{j:Int}{items:Array Value}{x old:Value}{Q:Option Value->Shared->Prop}(he:IsEnum s.heap e it j old)(h1:s.heap.IsTupleIter it t i)(h2:s.heap.IsTuple t items)(h3:items[i]? =some x)(dR:e≠it)
  (hQ:∀h',IsEnumOut h' e it (j+1) x s.heap.objs.size->h'.IsTupleIter it t (i+1)->h'.get? s.heap.objs.size=some {cls:=.type "tuple",data:=.seq #[.int j s.toks,x]}->
   (∀b o,b≠e->b≠it->s.heap.get? b=some o->h'.get? b=some o)->Q (some (.ref s.heap.objs.size)) {s with heap:=h',toks:=s.toks+1}):wpAny (model P w) A (pyNext (.ref e)) Q E s:=by
 have hT:s.TypeIs (.ref e) "enumerate":=⟨_,he,rfl⟩;obtain⟨g0,gg,dd,tq,os⟩:=s;unfold pyNext;refine b8 (wpAny_attempt (wpAny_callSpecial?_slot (name:=Str.ofString "__next__") hT F.slot_enumerate_next (wpAny_call_entry F.slot_enumerate_next hT F.entry_enumerate_next ?_ (F.args_enumerate_next_1 _))));refine(show wpAny _ _ (field (.ref e) 2 >>= _) _ _ _ from b8 (wpAny_field he rfl (x:=.ref it) rfl (b8 (an5 h1 h2 h3 λg1 k1 r1=>?_))))
 replace r1:Heap.SameBut it g0 g1:=r1
 have xw:IsEnum g1 e it j old:=(r1.2 e dR).trans he;refine(show wpAny _ _ (field (.ref e) 3 >>= _) _ _ ⟨g1,gg,dd,tq,os⟩from b8 (wpAny_field xw rfl (x:=rawInt j) rfl ?_));refine(show wpAny _ _ (field (.ref e) 4 >>= _) _ _ ⟨g1,gg,dd,tq,os⟩from b8 (wpAny_field xw rfl (x:=.none) rfl ?_));refine(show wpAny _ _ (mkInt j >>= _) _ _ ⟨g1,gg,dd,tq,os⟩from b8 (wpAny_mkInt ?_));refine(show wpAny _ _ (setField (.ref e) 3 (rawInt (j+1)) >>= _) _ _ ⟨g1,gg,dd,tq+1,os⟩from b8 (wpAny_setField_rec xw (by simp) λg2 rQ r2=>?_))
 replace r2:Heap.SameBut e g1 g2:=r2
 replace rQ:IsEnum g2 e it (j+1) old:=rQ
 refine(show wpAny _ _ (setField (.ref e) 4 .none >>= _) _ _ ⟨g2,gg,dd,tq+1,os⟩from b8 (wpAny_setField_rec rQ (by simp) λg3 zN r3=>?_))
 replace r3:Heap.SameBut e g2 g3:=r3
 replace zN:IsEnum g3 e it (j+1) old:=zN
 refine(show wpAny _ _ (newTuple [.int j tq,x] >>= _) _ _ ⟨g3,gg,dd,tq+1,os⟩from b8 (wpAny_newTuple ?_));have sz:g3.objs.size=g0.objs.size:=by rw[r3.1,r2.1,r1.1]
 have CB:IsEnum (g3.push {cls:=.type "tuple",data:=.seq #[.int j tq,x]}) e it (j+1) old:=b_ _ zN;have t4:(g3.push {cls:=.type "tuple",data:=.seq #[.int j tq,x]}).get? g0.objs.size=some {cls:=.type "tuple",data:=.seq #[.int j tq,x]}:=by
  rw[<-sz];exact cu _ rfl
 have lt4:e<g0.objs.size:=cj he;have kp:∀b o,b≠e->b≠it->g0.get? b=some o->(g3.push {cls:=.type "tuple",data:=.seq #[.int j tq,x]}).get? b=some o:=λb o be bi hb=>
  b_ _ (r3.extBut b o be (r2.extBut b o be (r1.extBut b o bi hb)))
 have k4:(g3.push {cls:=.type "tuple",data:=.seq #[.int j tq,x]}).IsTupleIter it t (i+1):=by
  obtain⟨o,ho,r⟩:=(k1.extBut r2.extBut (cH dR)).extBut r3.extBut (cH dR);exact⟨o,b_ _ ho,r⟩
 generalize g3.push {cls:=.type "tuple",data:=.seq #[.int j tq,x]}=g4 at CB t4 kp k4 ⊢;rw[sz];refine(show wpAny _ _ (Builtin.SmallTypes.ownedTupleIsFree (.ref e) >>= _) _ _ ⟨g4,gg,dd,tq+1,os⟩from b8 ?_);unfold Builtin.SmallTypes.ownedTupleIsFree;refine b8 (wpAny_field CB rfl (x:=.none) rfl (b9 ?_));simp only[if_true];refine b8 (wpAny_rule (b8 (wpAny_field CB rfl (x:=old) rfl (b8 (wpAny_setField_rec CB (by simp) λg5 HX r5=>?_)))))
 replace r5:Heap.SameBut e g4 g5:=r5
 replace HX:IsEnum g5 e it (j+1) x:=HX
 refine(show wpAny _ _ (Builtin.SmallTypes.ownedTupleHandOut (.ref e) (.ref g0.objs.size) >>= _) _ _ ⟨g5,gg,dd,tq+1,os⟩from b8 ?_);unfold Builtin.SmallTypes.ownedTupleHandOut;refine b8 (wpAny_setField_rec HX (by simp) λg6 HW r6=>?_)
 replace r6:Heap.SameBut e g5 g6:=r6
 replace HW:IsEnumOut g6 e it (j+1) x g0.objs.size:=HW
 refine wpAny_setField_rec HW (by simp) λg7 HV r7=>?_
 replace r7:Heap.SameBut e g6 g7:=r7
 replace HV:IsEnumOut g7 e it (j+1) x g0.objs.size:=HV
 have ne':=cH dR;have Io:g0.objs.size≠e:=Nat.ne_of_gt lt4;exact b8 (wpAny_letGo (b9 ⟨_,rfl,b9 (hQ g7 HV (((k4.extBut r5.extBut ne').extBut r6.extBut ne').extBut r7.extBut ne') (r7.extBut _ _ Io (r6.extBut _ _ Io (r5.extBut _ _ Io t4)))
  λb o be bi hb=>r7.extBut b o be (r6.extBut b o be (r5.extBut b o be (kp b o be bi hb))))⟩))
def aC1{e it t:Addr}{i:Nat}{j:Int}{items:Array Value}{old:Value}{Q:Option Value->Shared->Prop}(hh:A.handled=none)(he:IsEnum s.heap e it j old)(h1:s.heap.IsTupleIter it t i)(h2:s.heap.IsTuple t items)(h3:items[i]? =none)
  (hQ:∀h',Heap.ExtBut it s.heap h'->Q none {s with heap:=h'}):wpAny (model P w) A (pyNext (.ref e)) Q E s:=by
 have hT:s.TypeIs (.ref e) "enumerate":=⟨_,he,rfl⟩;unfold pyNext;refine b8 (wpAny_attempt (wpAny_callSpecial?_slot (name:=Str.ofString "__next__") hT F.slot_enumerate_next (wpAny_call_entry F.slot_enumerate_next hT F.entry_enumerate_next ?_ (F.args_enumerate_next_1 _))));refine(show wpAny _ _ (field (.ref e) 2 >>= _) _ _ _ from b8 (wpAny_field he rfl (x:=.ref it) rfl (b8 (an4 hh h1 h2 h3 λh' y k1 k2=>?_))));obtain⟨o,ho,hc⟩:=k2;exact b8 (wpAny_isInstance (T:="StopIteration") (b:=true) ⟨o,ho,hc⟩ isSubtype_stop (b9 (hQ _ k1)))
end
def rJ(K:b6)(a:Addr):It:=
 ⟨λi H=>∃(xs:List V) (x:V),e_ K H a xs/\xs[i]? =some x,λi H v H'=>∃T x,v= .ref T/\H T=none/\H'=upd H T (.tup [.int ((i+1:Nat):Int),x])/\∀xs,e_ K H a xs->xs[i]? =some x,λi H=>∃xs:List V,e_ K H a xs/\xs.length<=i⟩
def X5{P:Program}{w:World}{K:b6}{elts:List Expr}{kk:Nat}{sS:Pos}(a e it:Addr):
  Turn P w K (.Tuple elts kk sS) (rJ K a) [e,it] e (λi h=>(∃old,IsEnum h e it ((i+1:Nat):Int) old)/\h.IsTupleIter it a i/\e≠it) where
 mem:=aB
 obj:=λi h st b hb=>by
  obtain⟨⟨old,he⟩,⟨o,ho,hc,hd⟩,_⟩:=st;rcases aN.mp hb with rfl|hb
  .exact⟨_,he,λv q=>nomatch q⟩
  .rcases List.mem_singleton.mp hb with rfl;exact⟨o,ho,λv q=>by rw[hd]at q;cases q⟩
 keep:=λi h h' st k=>by
  obtain⟨⟨old,he⟩,⟨o,ho,r⟩,dR⟩:=st;exact⟨⟨old,k e aB _ he⟩,⟨o,k it (by simp) o ho,r⟩,dR⟩
 item:=by
  intro X hP hw hK hc i pins s σ H E I hf st hg;subst hP hw hK;obtain⟨⟨old,he⟩,hit,dR⟩:=st;obtain⟨xs,x,hq,hx⟩:=hg;obtain⟨c7,rv,p,hz⟩:=I.tuple hq;obtain⟨u,hu,ru⟩:=rv.get hx;have Sj:e<s.heap.objs.size:=cj he;have lt2:it<s.heap.objs.size:=by
   obtain⟨_,q,_⟩:=hit;exact cj q
  refine an3 he hit p (x:=u) (by simpa using hu) dR λh1 ho aO6 hT hk=>⟨_,rfl,wpAny_letOwnedTupleGo_enum (s:={s with heap:=h1,toks:=s.toks+1}) ho λh2 rQ sb=>?_⟩;have Ic:=(sb.2 _ (Nat.ne_of_gt Sj)).trans hT;have nw:ji X.prog X.w (upd H s.heap.objs.size (.tup [.int ((i+1:Nat):Int),x])) h2 s.heap.objs.size (.tup [.int ((i+1:Nat):Int),x]):=
   ⟨by show 2<=2^24;decide,_,.cons ⟨_,rfl⟩ (.cons ru .nil),⟨_,Ic,rfl,_,rfl⟩⟩
  have I1:Inv X pins σ (upd H s.heap.objs.size (.tup [.int ((i+1:Nat):Int),x])) {s with heap:=h2,toks:=s.toks+1}:=
   I.Kz (ch:=[e,it]) (λb ob hb q=>(sb.2 b λz=>hb (by simp[z])).trans (hk b ob (λz=>hb (by simp[z])) (λz=>hb (by simp[z])) q)) hf (aI _) nw
  refine⟨.ref s.heap.objs.size,_,I1,rfl,⟨_,x,rfl,I.hok.fresh (aI _),rfl,λys hy=>by rw[I.KA hy hq];exact hx⟩,⟨⟨u,?_⟩,aO6.at λo q=>(sb.2 it (cH dR)).trans q,dR⟩,λb hb=>?_⟩
  .rw[show((i+1+1:Nat):Int)=((i+1:Nat):Int)+1 by lia];exact rQ
  .have zQ:b<s.heap.objs.size:=by
    rcases aN.mp hb with rfl|hb
    .exact Sj
    .rcases List.mem_singleton.mp hb with rfl;exact lt2
   rw[eK (b5 zQ)];exact(hf b hb).1
 done:=by
  intro X hP hw hK hc i pins s σ H E I hf st hg;subst hP hw hK;obtain⟨⟨old,he⟩,hit,dR⟩:=st;obtain⟨xs,hq,hx⟩:=hg;obtain⟨c7,rv,p,hz⟩:=I.tuple hq;obtain⟨f0,f1,f2,f3,f4,f5⟩:=hf it (by simp);have hl:=rv.length;exact aC1 (I.ok.hd hc) he hit p (by simp;lia) λh' eb=>⟨rfl,I.turned (t':=s.toks) (λb o hb q=>eb b o hb q) f0 f1 f3 f4 f5⟩
 self:=λA i s Q E st h=>by
  obtain⟨⟨_,he⟩,_⟩:=st;exact wpAny_pyIter_enum he h
def aB4(K:b6)(ta:TE):TI:=λσ H R=>ta σ H λv H1=>∃a xs,v= .ref a/\e_ K H1 a xs/\R (rJ K a) H1
def ae2{M:Model}{A:Around}{E:Value->Shared->Prop}{s:Shared}{env:Env}{pos:Pos}{T:String}{e:Expr}{zz:List Keyword}{Q:Value->Shared->Prop}
  (h:wpAny M A (spliced (backTo pos (starEach [e] env))) (λvs s₁=>wpAny M A (evalAll ((backToKw pos (keywordEach zz env)).map (·.2))) (λd_ s₂=>wpAny M A (call (.type T) vs (((backToKw pos (keywordEach zz env)).filterMap (·.1)).zip d_)) Q E s₂) E s₁) E s)
  (he:backTo pos (starEach [e] env)=[(false,eval e env)])(kW:(backToKw pos (keywordEach zz env)).all (·.1.isSome)=true)(hkw:(backToKw pos (keywordEach zz env)).any (·.1.isNone)=false):
  wpAny M A (callWith pos (.type T) [] (backTo pos (starEach [e] env)) (backToKw pos (keywordEach zz env))) Q E s:=by
 rw[he]at h ⊢;unfold callWith;refine b8 (wpAny_holding (wpAny_mono (evalArgs_kwB (f:=.type T) (Q:=λa s1=>wpAny M A (call (.type T) ([]++a.pos) a.kw) Q E s1) kW h) (λa s1 h1=>b8 (wpAny_standAt ?_)) λ_ _ x=>x));simp only[hkw,List.any_cons,List.any_nil,Bool.or_false];exact b8 (b9 (b8 (wpAny_mono h1 (λr s2 hr=>b8 (wpAny_holding (wpAny_point (b9 hr)))) λ_ _ x=>x)))
def aa4{X:Cx}{e:Expr}{ta:TE}{p pos sS kp cp:Pos}{ck:Nat}{elts:List Expr}{kk:Nat}(hg:Gl X "enumerate")(hm:X.mg "enumerate"=none)(ha:PE X e ta)(hs:starEach [e] X.env=[(false,eval e X.env)]:=by rfl):
  PI X (.Tuple elts kk sS) (.Call (.Name "enumerate" p) [e] [⟨some "start",.Constant (.int 1) ck cp,kp⟩] pos) (aB4 X.K ta):=by
 intro pins s σ H R I h;refine wpAny_Call_Name_kw (yu I hg hm boot_enumerate (ae2 (dY ((c_ ha ir hs) pos pins s σ H (λvs H1=>∃a xs,vs=[.ref a]/\e_ X.K H1 a xs/\R (rJ X.K a) H1) I ?_) λus s1 ⟨vs,H1,I1,r1,q1⟩=>?_) (by rw[hs];rfl) rfl rfl))
 .show ta σ H _;have e:(λx H1=>nI σ H1 λxs H2=>∃a wM,(x::xs:List V)=[.ref a]/\e_ X.K H2 a wM/\R (rJ X.K a) H2)=λv H1=>∃a xs,v= .ref a/\e_ X.K H1 a xs/\R (rJ X.K a) H1:=by
   funext x H1;show(∃a wM,([x]:List V)=[.ref a]/\e_ X.K H1 a wM/\R (rJ X.K a) H1)=_;simp
  rw[e];exact h
 .obtain⟨a,xs,ex,hq,q⟩:=q1;subst ex;cases r1 with
  |cons r rr=>
   cases rr;cases r;refine kws_cons (dY (cZ (X:=X) pins s1 σ H1 (λv H2=>v= .int 1/\H2=H1) I1 ⟨rfl,rfl⟩) λu s2 ⟨x,H2,I2,r2,e1,e2⟩=>kws_nil ?_);subst e1 e2;obtain⟨tk,rfl⟩:=r2;obtain⟨c7,rv,p',hz⟩:=I2.tuple hq;refine an7 (items:=c7.toArray) p' λh' he hit hk=>wpAny_pyIter_enum he ?_;have I3:Inv X pins σ H2 {s2 with heap:=h'}:=I2.kept (t':=s2.toks) hk;refine⟨s2.heap.objs.size+1,[s2.heap.objs.size+1,s2.heap.objs.size],_,_,H2,rfl,I3,X5 a (s2.heap.objs.size+1) s2.heap.objs.size,⟨⟨.none,he⟩,hit,Nat.succ_ne_self _⟩,λb hb=>?_,q⟩;have hle:s2.heap.objs.size<=b:=by
    rcases aN.mp hb with rfl|hb
    .exact Nat.le_add_right _ _
    .rcases List.mem_singleton.mp hb with rfl;exact aI _
   exact I2.sW hle (I2.hok.fresh hle)
def Zn{K:b6}{a:Addr}{xs:List V}{g:TG}{tb:TS}{D:Ends}{σ:St}{H:Hp}(Pv:Nat->St->Hp->Prop)(h0:Pv 0 σ H)(hl:∀H,e_ K H a xs)
  (hs:∀i x σ H T,xs[i]? =some x->Pv i σ H->H T=none->g (.ref T) σ (upd H T (.tup [.int ((i+1:Nat):Int),x])) λσ2 H2=>tb {D with nx:=Pv (i+1),ct:=Pv (i+1),bk:=D.nx} σ2 H2)
  (hd:∀σ H,Pv xs.length σ H->D.nx σ H):
  ∃W:Nat->Nat->St->Hp->Prop,(∃m,W 0 m σ H)/\∀i m σ H,W i m σ H->
   ((rJ K a).stop i H/\D.nx σ H)\/((rJ K a).go i H/\∃N:St->Hp->Prop,(∀σ' H',N σ' H'->∃m',m'<m/\W (i+1) m' σ' H')/\∀x H',(rJ K a).jS i H x H'->g x σ H' λσ2 H2=>tb {D with nx:=N,ct:=N,bk:=D.nx} σ2 H2):=by
 refine⟨λi m σ H=>i+m=xs.length/\Pv i σ H,⟨xs.length,Nat.zero_add _,h0⟩,?_⟩;rintro i m σ H ⟨e,p⟩;cases m with
 |zero=>
  obtain rfl:i=xs.length:=();exact .inl ⟨⟨xs,hl H,aI _⟩,hd σ H p⟩
 |succ m=>
  have eF:i<xs.length:=();refine .inr ⟨⟨xs,xs[i],hl H,br eF⟩,Pv (i+1),λσ' H' p'=>⟨m,Nat.lt_succ_self m,(),p'⟩,?_⟩;rintro v H' ⟨T,x,rfl,hT,rfl,hx⟩;exact hs i x σ H T (hx xs (hl H)) p hT
def i6{K:b6}{a:Addr}{xs:List V}{g:TG}{tt:TT}{te:TE}{vs:List Nat}{σ:St}{H1:Hp}{D:Addr}{Qd:Hp->Prop}(sel:V->Option V)(hS:cU K H1 a xs)(hD:H1 D=none)(hl:xs.length<2^24)
  (each:∀(x:V) (H':Hp),x∈xs->cR H1 H'->∀(Q1:V->Hp->Prop) (Q2:Hp->Prop),(∀y,sel x=some y->Q1 y H')->(sel x=none->Q2 H')->g x (wipe σ vs) H' λσ2 H2=>wipe σ2 vs=wipe σ vs/\tt σ2 H2 λb H3=>if b=true then te σ2 H3 Q1 else Q2 H3)
  (hd:Qd (upd H1 D (.lst (xs.filterMap sel)))):
  ∃W:Nat->Nat->Hp->Prop,(∃m,W 0 m (upd H1 D (.lst [])))/\∀i m H,W i m H->
   ((pU K a).stop i H/\Qd H)\/((pU K a).go i H/\∃Nx:Hp->Prop,(∀H',Nx H'->∃m',m'<m/\W (i+1) m' H')/\∀x H',(pU K a).jS i H x H'->g x (wipe σ vs) H' λσ2 H2=>wipe σ2 vs=wipe σ vs/\tt σ2 H2 λb H3=>
    if b=true then te σ2 H3 λy H4=>∃acc,H4 D=some (.lst acc)/\acc.length<sizeLine/\Nx (upd H4 D (.lst (acc++[y])))else Nx H3):=by
 refine Bh (K:=K) (a:=a) (xs:=xs) (λi H=>H=upd H1 D (.lst ((xs.take i).filterMap sel))) rfl ?_ ?_ ?_
 .rintro i H _ rfl;exact(cR.upd hD).seq hS
 .rintro i x H hx rfl;have et:xs.take (i+1)=xs.take i++[x]:=by
   rw[List.take_succ,hx];rfl
  refine each x _ (bx hx) (cR.upd hD) _ _ (λy hy=>⟨_,cV,?_,?_⟩) λhn=>?_
  .have h1:=List.length_filterMap_le sel (xs.take i);rw[aW]at h1;show _<2^24;lia
  .rw[jd,et,bV];simp[hy]
  .rw[et,bV];simp[hn]
 .rintro H rfl;rw[List.take_length];exact hd
def gY(l:List Str):(l.map V.str).all jO=true:=by
 rw[List.all_map];exact bg.mpr λ_ _=>rfl
def jM(x:Str)(l:List Str):inV (.str x) (l.map V.str)=decide (x∈l):=by
 unfold inV;rw[List.any_map,bC,List.any_eq_true,aq];constructor
 .rintro⟨y,hy,e⟩;have:y=x:=eq_of_beq (show(y==x)=true from e);rw[<-this];exact hy
 .intro h;exact⟨x,h,show(x==x)=true from beq_self_eq_true x⟩
def ue(x:Str)(l:List Str):(l.map V.str).countP (λz=>iW z (.str x))=l.count x:=by
 rw[List.countP_map];rfl
def DN{l:List Str}(h:∀x∈l,PyData.strOk x=true):SeqAt.shaped (.list (l.map PyData.str))=true:=by
 have h1:∀l:List Str,(∀x∈l,PyData.strOk x=true)->PyData.canLayAll0 (l.map PyData.str)=true:=λl=>by
  induction l with
  |nil=>intro _;rfl
  |cons a l ih=>
   intro h;show(PyData.strOk a&&PyData.canLayAll0 (l.map PyData.str))=true;rw[ih λx hx=>h x (aA _ hx),h a aB];rfl
 have h2:∀l:List Str,PyData.depthAll (l.map PyData.str)=0:=λl=>by
  induction l with
  |nil=>rfl
  |cons a l ih=>
   show max _ (PyData.depthAll (l.map PyData.str))=0;rw[ih];rfl
 unfold SeqAt.shaped;show(PyData.canLayAll0 _&&decide (PyData.depthAll _+1<=64))=true;rw[h1 l h,h2];rfl
theorem JU:∀a b:List Str,PyData.eqvAll (a.map PyData.str) (b.map PyData.str)=decide (a=b)
 |[],[]=>rfl
 |[],_::_=>rfl
 |_::_,[]=>rfl
 |x::a,y::b=>by
  show((x==y)&&PyData.eqvAll (a.map PyData.str) (b.map PyData.str))=_;rw[JU a b,bC];simp
def LR(a b:List Str):PyData.eqv (.list (a.map PyData.str)) (.list (b.map PyData.str))=decide (a=b):=JU a b
theorem Kd{K:b6}{H:Hp}:∀l:List Str,sQ K H (l.map V.str) (l.map PyData.str)
 |[]=>.nil
 |x::r=>.cons (.str x) (Kd r)
def Bk{K:b6}{H:Hp}{a:Addr}{l:List Str}(h:cU K H a (l.map V.str)):Dp K H (.ref a) (.list (l.map PyData.str)):=.lst h (Kd l)
def FG{K:b6}{h:Heap}{mg:Str->Option Value}{x:Str}{C:Addr}{bm:List Value}{newId:String}(X:K.In h)(G:h.Ns mainGlobals mg)(e:nsIn K mainGlobals x=some (some (.ref C)))(q:excIn K C bm newId=true):OwnCls x C bm newId mg h:=by
 refine⟨mg_of X G e,?_⟩;unfold excIn at q;split at q
 .rename_i dd cd sl lk;split at q
  .rename_i C1 tl j0 j1 j2 j3 nn j5 mro slots;simp only[aE,beq_iff_eq,Bool.not_eq_true']at q;obtain⟨⟨⟨⟨⟨q1,q2⟩,q3⟩,q4⟩,q5⟩,q6⟩:=q;subst q1 q2;have es:sl= #[j0,j1,j2,j3,some (.builtin nn),j5]:=by
    cases sl with
    |mk l=>exact cI Array.mk slots
   subst es;cases cd with
   |mk nm bs mr ns qn hd sn sub ab col del=>
    cases(show mr=_ from mro);cases(show del=_ from q3);exact⟨tl,ns,nm,qn,bs,hd,sn,sub,ab,col,dd,j0,j1,j2,j3,j5,_,X _ _ lk,.of_isNs (isNs_of_in X q5),nsMap_none_of_in X q5 q6,tail_of_in X q4⟩
  .cases q
 .cases q
inductive Ent(w:World):List DictEntry->List (Key×V)->Prop
 |nil:Ent w [] []
 |cons {e:DictEntry} {k:Key} {v:V} {es:List DictEntry} {d_:List (Key×V)}:qx k e.key=true->e.hash=Gv w k->RelV v e.val->Ent w es d_->Ent w (e::es) ((k,v)::d_)
def aB8{P:Program}{w:World}{es:List DictEntry}{d_:List (Key×V)}(h:Ent w es d_):(∀e∈es,∃k,qx k e.key=true/\e.hash=Gv w k)/\∃vs:List (Key×Value),Pairs (qg P w) es vs/\vs.map (·.1)=d_.map (·.1)/\KV d_ vs:=by
 induction h with
 |nil=>exact⟨(λ_ h=>by cases h),[],.nil,rfl,.nil⟩
 |@cons e k v es d_ h1 h2 h3 t ih=>
  obtain⟨i1,vs,i2,i3,i4⟩:=ih;refine⟨λe' he=>?_,(k,e.val)::vs,.cons h1 rfl i2,by rw[aX,aX,i3],.cons ⟨rfl,h3⟩ i4⟩;rcases aN.mp he with z|z
  .exact⟨k,by rw[z];exact h1,by rw[z];exact h2⟩
  .exact i1 e' z
def aC3{P:Program}{w:World}{K:b6}{h:Heap}{mg:Str->Option Value}{x:Str}{d:Addr}{es:Array DictEntry}{ep:Nat}{d_:List (Key×V)}(X:K.In h)(G:h.Ns mainGlobals mg)(a:nsIn K mainGlobals x=some (some (.ref d)))
  (l:K.lookup d=some ⟨.type "dict",none,.dict es ep,#[]⟩)(ns:(d==sysModules)=false)(few:d_.length<=1000)(nd:(d_.map (·.1)).Nodup)(en:Ent w es.toList d_):∃a,mg x=some (.ref a)/\kX P w K a d_:=by
 obtain⟨i1,vs,i2,i3,i4⟩:=aB8 (P:=P) en;refine⟨d,mg_of X G a,ns,(by show _<=2^24;lia),_,es,ep,vs,l,⟨rfl,rfl,rfl⟩,rfl,λe he=>i1 e (by simpa using he),i2,by rw[i3];exact nd,i4⟩
abbrev C7:List Value:=[.type "ValueError",.type "Exception",.type "BaseException",.type "object"]
abbrev wj{K:b6}{h:Heap}(X:K.In h)(x:Str)(C:Addr):Prop:=nsIn K mainGlobals x=some (some (.ref C))/\excIn K C C7 "ValueError.__new__"=true
section
variable {X:Cx}
def aJ2(i j:Int):Prop:=0<j/\j<2^1000
def AX:fV X (binaryOp .FloorDiv) (rI aJ2 λi j=>.int (i/j)):=uU λi j _ _ _ _ _ hc q=>by
 have h1:(0:Int)<j:=hc.1;have h2:j<2^1000:=hc.2;refine floordiv_int () (by rw[Int.fdiv_eq_ediv_of_nonneg i ()];exact q) (.inl (PyProof.noPylong_of_log2 ?_));have h3:j.natAbs<2^1000:=();have:=(Nat.log2_lt (show j.natAbs≠0 by lia)).mpr h3;lia
def aJ1(i j:Int):Prop:=i.natAbs<2^1000/\j.natAbs<2^1000
def MB:fV X (binaryOp .Mult) (rI aJ1 λi j=>.int (i*j)):=uU λ_ _ _ _ _ _ _ hc q=>mul_int q (IntMulOk.of_le (m:=1000) (n:=1000) (intBits_le_iff.mpr hc.1) (intBits_le_iff.mpr hc.2) ())
end
section
variable {X:Cx}
def ac7:xM X "str.zfill" (λx xs H Q=>∃a i,x= .str a/\xs=[.int i]/\PadOk i=true/\Q (.str (Txt.zfill a i)) H):=by
 intro pins s σ H x xs v us Q I rx rs h;obtain⟨a,i,rfl,rfl,hp,h⟩:=h;obtain⟨t,rfl⟩:=rx;cases rs with
 |cons r1 rs=>
  cases rs;obtain⟨u,rfl⟩:=r1;exact PySem.SC.zfill hp λt' k=>⟨.str (Txt.zfill a i),H,I.tok k,⟨t',rfl⟩,h⟩
inductive NT(K:b6)(neg:Bool)(x:V)(y:V)(H:Hp)(Q:VK):Prop|m(a b xs)(_:x= .ref a)(_:y= .ref b)(_:cU K H a xs)(_:cU K H b [])(_:Q (.bl (if neg then !xs.isEmpty else xs.isEmpty)) H)
def aa9(hu:X.A.units+64<cLine):fV X (compareOp .Eq) (NT X.K false):=by
 intro pins s σ H x y v u Q I rx ry h;obtain⟨a,b,xs,rfl,rfl,ha,hb,q⟩:=h;cases rx;cases ry;obtain⟨c7,r,pl,z1⟩:=I.list ha;obtain⟨o7,r2,zp,z2⟩:=I.list hb;have e2:o7=[]:=bG (by have:=r2.length;simpa using this.symm);subst e2;have hl:=r.length;cases xs with
 |nil=>
  have e1:c7=[]:=bG (by simpa using hl.symm);subst e1;exact SeqAt.eq_listAt (e:=λ_=>true) pl.isList zp.isList rfl () (λj h1 h2=>cJ h1 (by simp)) ⟨.bl true,H,I,rfl,q⟩
 |cons c r'=>
  refine SeqAt.eq_list_lengthsAt pl.isList zp.isList ?_ () ⟨.bl false,H,I,rfl,q⟩;rw[bQ,bQ,<-hl];rfl
def aa8(hu:X.A.units+64<cLine):fV X (compareOp .NotEq) (NT X.K true):=by
 intro pins s σ H x y v u Q I rx ry h;obtain⟨a,b,xs,rfl,rfl,ha,hb,q⟩:=h;cases rx;cases ry;obtain⟨c7,r,pl,z1⟩:=I.list ha;obtain⟨o7,r2,zp,z2⟩:=I.list hb;have e2:o7=[]:=bG (by have:=r2.length;simpa using this.symm);subst e2;have hl:=r.length;cases xs with
 |nil=>
  have e1:c7=[]:=bG (by simpa using hl.symm);subst e1;exact SeqAt.RcNeAt.lists (e:=λ_=>true) pl.isList zp.isList rfl () (λj h1 h2=>cJ h1 (by simp)) X.prog X.w X.xe _ ⟨.bl false,H,I,rfl,q⟩
 |cons c r'=>
  refine SeqAt.RcNeAt.lists_lengths pl.isList zp.isList ?_ () X.prog X.w X.xe _ ⟨.bl true,H,I,rfl,q⟩;rw[bQ,bQ,<-hl];rfl
def an2{h:Heap}{g:Array GenState}{d:Drawn}{t:Nat}{os:OsState}{e C D N N':Addr}{oe:Obj}{Q:Bool->Shared->Prop}{M:Model}{A:Around}{E:Value->Shared->Prop}
  {nm q nm' q':Str}{bs bm bs' xH:List Value}{hdct aI0:Bool}{sn sn':List Str}{sub aK5:List Value}{ab ab':Bool}{col aR0:Option Bool}{dd dd':Option Addr}{k0 k1 k2 k3 k5 k0' Hs Hr k3' k5':Option Value}{newId Fz:String}
  (hC:h.get? C=some (excClassObj nm q C N bs bm hdct sn sub ab col dd k0 k1 k2 k3 k5 newId))(hD:h.get? D=some (excClassObj nm' q' D N' bs' xH aI0 sn' aK5 ab' aR0 dd' k0' Hs Hr k3' k5' Fz))
  (he:h.get? e=some oe)(GD:oe.cls= .ref C)(oN:xH.contains (.type "BaseException")=true)(k8:(Value.ref C::bm).contains (.ref D)=false)
  (hq:Q false ⟨h,g,d,t,os⟩):wpAny M A (excMatches (.ref e) (.ref D)) Q E ⟨h,g,d,t,os⟩:=by
 have hcB:(Value.ref D::xH).contains (.type "BaseException")=true:=by rw[List.contains_cons,oN,Bool.or_true]
 have f:=tc_notTuple;unfold excMatches
 repeat (first |(with_reducible refine wpAny_loadPart_at he ?_;rw[GD])|with_reducible refine wpAny_loadPart_at hD ?_|(with_reducible refine wpAny_isSubtype_exc hD ?_;rw[hcB])|(with_reducible refine wpAny_isSubtype_exc hC ?_;rw[k8])|wp_step)
 exact hq
end
section
variable {X:Cx}{pins:List (Addr×Obj)}{σ:St}{H:Hp}{s:Shared}
def FF{C e T1:Addr}{x:Str}{newId:String}{bm:List Value}{b₀:Stmt}{Ot:List Stmt}{th:TS}{np B4:Pos}{rest:List ExceptHandler}{D:Ends}{fl:Value}{s':Shared}{σ':St}{H':Hp}(O:OwnCls x C bm newId X.mg X.base)(oN:bm.contains (.type "BaseException")=true)(n8:∀x,X.fn x=true)(Cz:X.calm=true->X.A.handled=none)(hg:Gl X x)
  (hh:gb {X with A:=X.A.mark (some (.ref e)),calm:=false,xe:=λ_ _=>False} (b₀::Ot) th)(hd:(x==("__debug__":Str))=false)
  (I2:Inv {X with A:=X.A.mark (some (.ref e)),calm:=false,xe:=λ_ _=>False} pins σ' H' s')(x1:i8 s'.heap e T1 (.ref C) fl)(fT:X.iw.heap.get? T1=none/\H' T1=none/\∀p∈X.pn++pins,p.1≠T1)(q:th D σ' H'):
  wpAny (model X.prog X.w) X.A (handleBy (.ref e) X.env (.ExceptHandler (some (.Name x np)) none (b₀::Ot) B4::rest)) (SP X pins D) X.xe s':=by
 refine wpAny_handleBy_cons (codeAny_handlers_test (vR I2 hg O.bound ?_ hd)) (by intro q;cases q);obtain⟨tl,N,nm,qn,bs,hdct,sn,sub,ab,col,dd,k0,Hs,k2,k3,k5,mN,hC,hN,HH,T⟩:=O.obj;have x1':=x1;obtain⟨oe,vs,oT,ts,a0,e1,⟨e2,_⟩,e3,e4,e5,e6,e7,e8⟩:=x1';refine wpAny_excMatches_sub_self (I2.bk _ _ hC) e1 e2 (T.hasType oN) (codeAny_handlers_suite ?_);refine flight (s:=s') x1 λh2 Hr x2=>?_;have I3:=I2.Qy (M:=[T1]) (Hr.mono (λc hc=>hc) λc hc=>cJ hc (by simp)) (λb hb=>by
  have:b=T1:=by simpa using hb
  subst this;exact fT) (λb hb o ho=>by
  have:b=T1:=by simpa using hb
  subst this;rw[e6]at ho;cases ho;exact⟨_,e7⟩) n8
 refine nH (hh pins _ σ' H' D I3 q) λfl s4 h4=>?_;exact SP.turn (X:=X) h4 rfl Cz λp hp=>hp
def wF(h:Heap)(C:Addr)(bm:List Value):Prop:=∀o cd,h.get? C=some o->o.data= .cls cd->cd.mro= .ref C::bm
def E9{C e T1 D':Addr}{x y:Str}{newId Fz:String}{bm xH:List Value}{body:List Stmt}{np B4:Pos}{rest:List ExceptHandler}{D:Ends}{fl:Value}{s':Shared}{σ':St}{H':Hp}(O:OwnCls x C bm newId X.mg X.base)(O':OwnCls y D' xH Fz X.mg X.base)(oN:xH.contains (.type "BaseException")=true){TN:List Value}(hm:wF X.base C TN)(k8:(Value.ref C::TN).contains (.ref D')=false)(hg:Gl X y)(hd:(y==("__debug__":Str))=false)
  (I2:Inv {X with A:=X.A.mark (some (.ref e)),calm:=false,xe:=λ_ _=>False} pins σ' H' s')(x1:i8 s'.heap e T1 (.ref C) fl)
  (k:wpAny (model X.prog X.w) X.A (handleBy (.ref e) X.env rest) (SP X pins D) X.xe s'):
  wpAny (model X.prog X.w) X.A (handleBy (.ref e) X.env (.ExceptHandler (some (.Name y np)) none body B4::rest)) (SP X pins D) X.xe s':=by
 refine wpAny_handleBy_cons (codeAny_handlers_test (vR I2 hg O'.bound ?_ hd)) (by intro q;cases q);obtain⟨tl,N,nm,qn,bs,hdct,sn,sub,ab,col,dd,k0,Hs,k2,k3,k5,mN,hC,hN,HH,T⟩:=O.obj;obtain⟨tl2,N2,nm2,qn2,bs2,aS1,sn2,aS2,ab2,aT1,Iv,k02,k12,k22,k32,k52,mN2,CK,hN2,aS7,T2⟩:=O'.obj;obtain⟨oe,vs,oT,ts,a0,e1,⟨e2,_⟩,e3,e4,e5,e6,e7,e8⟩:=x1;refine an2 (I2.bk _ _ hC) (I2.bk _ _ CK) e1 e2 (T2.hasType oN) ?_ ?_
 .have e:=(List.cons.inj (hm _ _ hC rfl)).2;rw[e];exact k8
 .exact k
def ai3{C1 C2 C3:Addr}(IV IU IT:Hp->Prop){x1 x2 x3:Str}{n1 n2 n3:String}{TM TJ TH m2 m3:List Value}{body s1 s2 s3:List Stmt}{b1 b2 b3:Stmt}{tb t1 t2 t3:TS}{p1 p2 p3 h1 h2 h3 pos:Pos}
  (O1:OwnCls x1 C1 TM n1 X.mg X.base)(O2:OwnCls x2 C2 TJ n2 X.mg X.base)(O3:OwnCls x3 C3 TH n3 X.mg X.base)(B1:TM.contains (.type "BaseException")=true)(B2:TJ.contains (.type "BaseException")=true)(B3:TH.contains (.type "BaseException")=true)
  (M2:wF X.base C2 m2)(M3:wF X.base C3 m3)(Ac:(Value.ref C2::m2).contains (.ref C1)=false)(Ab:(Value.ref C3::m3).contains (.ref C1)=false)(Aa:(Value.ref C3::m3).contains (.ref C2)=false)
  (hc:X.calm=true)(hex:X.ex=[])(n8:∀x,X.fn x=true)(mS:X.stack=X.env::X.outer)(iT:X.env.frame=some X.env.locals)(g1:Gl X x1)(g2:Gl X x2)(g3:Gl X x3)
  (hb:∀E pn,lg {X with xe:=E,pn:=pn} C1 IV->lg {X with xe:=E,pn:=pn} C2 IU->lg {X with xe:=E,pn:=pn} C3 IT->PassesOwn (model X.prog X.w) X.A X.env E->gb {X with xe:=E,pn:=pn} body tb)
  (hh1:∀e,gb {X with A:=X.A.mark (some (.ref e)),calm:=false,xe:=λ_ _=>False} (b1::s1) t1)(hh2:∀e,gb {X with A:=X.A.mark (some (.ref e)),calm:=false,xe:=λ_ _=>False} (b2::s2) t2)(hh3:∀e,gb {X with A:=X.A.mark (some (.ref e)),calm:=false,xe:=λ_ _=>False} (b3::s3) t3)
  (d1:(x1==("__debug__":Str))=false:=by decide)(d2:(x2==("__debug__":Str))=false:=by decide)(d3:(x3==("__debug__":Str))=false:=by decide):
  PS X (.Try body [.ExceptHandler (some (.Name x1 p1)) none (b1::s1) h1,.ExceptHandler (some (.Name x2 p2)) none (b2::s2) h2,.ExceptHandler (some (.Name x3 p3)) none (b3::s3) h3] [] [] pos)
   (λD σ H=>tb D σ H/\(∀σ' H',IV H'->t1 D σ' H')/\(∀σ' H',IU H'->t2 D σ' H')/\∀σ' H',IT H'->t3 D σ' H'):=by
 intro pins s σ H D I h;refine wpAny_Try_except ?_;have land:∀(C:Addr) (EH:Hp->Prop),(∀(e T1:Addr) (fl:Value) (s':Shared) (σ':St) (H':Hp),Inv {X with A:=X.A.mark (some (.ref e)),calm:=false,xe:=λ_ _=>False} pins σ' H' s'->i8 s'.heap e T1 (.ref C) fl->
    (X.iw.heap.get? T1=none/\H' T1=none/\∀p∈X.pn++pins,p.1≠T1)->EH H'->wpAny (model X.prog X.w) X.A (handleBy (.ref e) X.env [.ExceptHandler (some (.Name x1 p1)) none (b1::s1) h1,.ExceptHandler (some (.Name x2 p2)) none (b2::s2) h2,.ExceptHandler (some (.Name x3 p3)) none (b3::s3) h3]) (SP X pins D) X.xe s')->
   lg {X with xe:=λe s₁=>wpAny (model X.prog X.w) X.A (noteFrame e X.env) (λ_ s₂=>wpAny (model X.prog X.w) X.A (setFlight e none) (λ_ s₃=>wpAny (model X.prog X.w) X.A (handleBy e X.env [.ExceptHandler (some (.Name x1 p1)) none (b1::s1) h1,.ExceptHandler (some (.Name x2 p2)) none (b2::s2) h2,.ExceptHandler (some (.Name x3 p3)) none (b3::s3) h3]) (SP X pins D) X.xe s₃) X.xe s₂) X.xe s₁,pn:=X.pn++pins} C EH:=by
  intro C EH go;refine⟨λb hb=>cJ (show b∈X.ex from hb) (by rw[hex];simp),λe H' s' ⟨jf,σ',tr,I',x',fr⟩ q=>?_⟩;have Ip:X.A.frames=some (X.env::X.outer):=by rw[<-mS];exact I.ok.frames
  have Cg:s'.heap.FunFrames X.base (X.env::X.outer):=by rw[<-mS];exact I'.stack
  refine Qo (L:=X.env.locals) Ip Cg iT x' λh1 T1 k1 x1 z1=>?_;rw[<-mS]at k1;have I1:=I'.Qy (s:=s') k1 (λb hb=>⟨(fr b hb).1,(fr b hb).2.1,(fr b hb).2.2⟩) (LQ x') n8;have fT:X.iw.heap.get? T1=none/\H' T1=none/\∀p∈(X.pn++pins)++jf,p.1≠T1:=by
   rcases z1 with z1|z1
   .exact⟨vO I'.base z1 (λy=>cJ (show T1∈X.ex from y) (by rw[hex];simp)),AZ I'.hok z1,λp hp y=>by
     have:=(I'.pin p hp).1;rw[y,z1]at this;cases this⟩
   .exact fr T1 (aA _ z1)
  have I2:Inv {X with A:=X.A.mark (some (.ref e)),calm:=false,xe:=λ_ _=>False} pins σ' H' {s' with heap:=h1}:=
   I1.turn (A:=X.A.mark (some (.ref e))) (c:=false) (E:=λ_ _=>False) (pn:=X.pn) (jf:=pins) rfl (λz=>nomatch z) λp hp=>bE _ hp
  exact go e T1 _ {s' with heap:=h1} σ' H' I2 x1 ⟨fT.1,fT.2.1,λp hp=>fT.2.2 p (bE _ hp)⟩ q
 have k1:=land C1 IV λe T1 fl s' σ' H' I2 x fT q=>FF O1 B1 n8 I.ok.hd g1 (hh1 e) d1 I2 x fT (h.2.1 σ' H' q);have k2:=land C2 IU λe T1 fl s' σ' H' I2 x fT q=>E9 O2 O1 B1 M2 Ac g1 d1 I2 x (FF O2 B2 n8 I.ok.hd g2 (hh2 e) d2 I2 x fT (h.2.2.1 σ' H' q));have k3:=land C3 IT λe T1 fl s' σ' H' I2 x fT q=>E9 O3 O1 B1 M3 Ab g1 d1 I2 x (E9 O3 O2 B2 M3 Aa g2 d2 I2 x (FF O3 B3 n8 I.ok.hd g3 (hh3 e) d3 I2 x fT (h.2.2.2 σ' H' q)));have I0:=I.turn (A:=X.A) (c:=X.calm) (E:=λe s₁=>wpAny (model X.prog X.w) X.A (noteFrame e X.env) (λ_ s₂=>wpAny (model X.prog X.w) X.A (setFlight e none) (λ_ s₃=>wpAny (model X.prog X.w) X.A (handleBy e X.env [.ExceptHandler (some (.Name x1 p1)) none (b1::s1) h1,.ExceptHandler (some (.Name x2 p2)) none (b2::s2) h2,.ExceptHandler (some (.Name x3 p3)) none (b3::s3) h3]) (SP X pins D) X.xe s₃) X.xe s₂) X.xe s₁) (pn:=X.pn++pins) (jf:=[]) rfl I.ok.hd (λp hp=>by simpa using hp);refine dY (hb _ _ k1 k2 k3 PassesOwn.looking [] s σ H D I0 h.1) λfl s4 h4=>?_;have h5:SP X pins D fl s4:=SP.turn (X:=X) (A:=X.A) (c:=X.calm) h4 rfl I.ok.hd λp hp=>bE _ hp;cases fl with
 |next=>exact wpAny_execs_nil h5
 |brk=>exact h5
 |cont=>exact h5
 |ret u=>exact h5
end
def am1{K:b6}{a:Addr}{xs:List V}{g:TG}{tt:TT}{te:TE}{vs:List Nat}{σ:St}{H1:Hp}{D:Addr}{Qd:Hp->Prop}(Pv:Nat->Hp->Prop)(h0:Pv 0 (upd H1 D (.lst [])))(hl:∀i H,i<=xs.length->Pv i H->cU K H a xs)
  (hs:∀i x H T,xs[i]? =some x->Pv i H->H T=none->g (.ref T) (wipe σ vs) (upd H T (.tup [.int (i:Nat),x])) λσ2 H2=>wipe σ2 vs=wipe σ vs/\tt σ2 H2 λb H3=>
   if b=true then te σ2 H3 λy H4=>∃acc,H4 D=some (.lst acc)/\acc.length<sizeLine/\Pv (i+1) (upd H4 D (.lst (acc++[y])))else Pv (i+1) H3)(hd:∀H,Pv xs.length H->Qd H):
  ∃W:Nat->Nat->Hp->Prop,(∃m,W 0 m (upd H1 D (.lst [])))/\∀i m H,W i m H->
   ((tZ K a).stop i H/\Qd H)\/((tZ K a).go i H/\∃Nx:Hp->Prop,(∀H',Nx H'->∃m',m'<m/\W (i+1) m' H')/\∀x H',(tZ K a).jS i H x H'->g x (wipe σ vs) H' λσ2 H2=>wipe σ2 vs=wipe σ vs/\tt σ2 H2 λb H3=>
    if b=true then te σ2 H3 λy H4=>∃acc,H4 D=some (.lst acc)/\acc.length<sizeLine/\Nx (upd H4 D (.lst (acc++[y])))else Nx H3):=by
 refine⟨λi m H=>i+m=xs.length/\Pv i H,⟨xs.length,Nat.zero_add _,h0⟩,?_⟩;rintro i m H ⟨e,p⟩;have q:=hl i H () p;cases m with
 |zero=>
  obtain rfl:i=xs.length:=();exact .inl ⟨⟨xs,q,aI _⟩,hd H p⟩
 |succ m=>
  have eF:i<xs.length:=();refine .inr ⟨⟨xs,xs[i],q,br eF⟩,Pv (i+1),λH' p'=>⟨m,Nat.lt_succ_self m,(),p'⟩,?_⟩;rintro v H' ⟨T,x,rfl,hT,rfl,hx⟩;exact hs i x H T (hx xs q) p hT
abbrev zl(K:b6)(C:Addr)(m:List Value):Prop:=∃cl dd cd sl,K.lookup C=some ⟨cl,dd,.cls cd,sl⟩/\cd.mro= .ref C::m
def N5{K:b6}{h:Heap}{C:Addr}{m:List Value}(X:K.In h)(q:zl K C m):wF h C m:=by
 obtain⟨cl,dd,cd,sl,lk,e⟩:=q;intro o cd' ho hd;have h1:=X _ _ lk;rw[ho]at h1;have h2:=aH h1;rw[h2]at hd;have h3:Data.cls cd=Data.cls cd':=hd;cases h3;exact e
def ZW{K:b6}{h:Heap}{x1 x2 x3:Str}{C1 C2 C3:Addr}{m2 m3:List Value}{TF Tz:Value}{Iv Tw:Option Addr}{Iz Iw:ClassData}{wO R4:Array (Option Value)}(X:K.In h)(a1:nsIn K mainGlobals x1=some (some (.ref C1)))(a2:nsIn K mainGlobals x2=some (some (.ref C2)))(a3:nsIn K mainGlobals x3=some (some (.ref C3)))
  (l2:K.lookup C2=some ⟨TF,Iv,.cls Iz,wO⟩)(l3:K.lookup C3=some ⟨Tz,Tw,.cls Iw,R4⟩)(r2:Iz.mro= .ref C2::m2)(r3:Iw.mro= .ref C3::m3)(q1:excIn K C1 C7 "ValueError.__new__"=true)(q2:excIn K C2 C7 "ValueError.__new__"=true)(q3:excIn K C3 C7 "ValueError.__new__"=true)
  (n1:(Value.ref C2::m2).contains (.ref C1)=false)(n2:(Value.ref C3::m3).contains (.ref C1)=false)(n3:(Value.ref C3::m3).contains (.ref C2)=false):
  ∃C1 C2 C3 m2 m3,wj X x1 C1/\wj X x2 C2/\wj X x3 C3/\zl K C2 m2/\zl K C3 m3/\(Value.ref C2::m2).contains (.ref C1)=false/\(Value.ref C3::m3).contains (.ref C1)=false/\(Value.ref C3::m3).contains (.ref C2)=false:=
 ⟨C1,C2,C3,m2,m3,⟨a1,q1⟩,⟨a2,q2⟩,⟨a3,q3⟩,⟨TF,Iv,Iz,wO,l2,r2⟩,⟨Tz,Tw,Iw,R4,l3,r3⟩,n1,n2,n3⟩
section
variable {K:b6}{h:Heap}{mg:Str->Option Value}
abbrev At(X:K.In h)(p:b6->Prop):Prop:=p K
abbrev Qu(X:K.In h)(x1 x2 x3:Str):Prop:=∃C1 C2 C3 m2 m3,wj X x1 C1/\wj X x2 C2/\wj X x3 C3/\zl K C2 m2/\zl K C3 m3/\(Value.ref C2::m2).contains (.ref C1)=false/\(Value.ref C3::m3).contains (.ref C1)=false/\(Value.ref C3::m3).contains (.ref C2)=false
def NA(K:b6)(C:Addr):List Str->Prop
 |[]=>True
 |f::r=>gz K C f/\NA K C r
def al2{C:Addr}{f:Str}{r:List Str}(a:findIn K (.ref C) f=some none)(n:NA K C r):NA K C (f::r):=⟨a,n⟩
abbrev rX(K:b6)(mg:Str->Option Value)(x q:Str)(st:Stmt)(ps fs:List Str):Prop:=∃C,yP K mg x q st ps C/\NA K C fs
def aC7{x q:Str}{st:Stmt}{ps fs:List Str}{C f:Addr}{oc:Value}{od an:Option Addr}{jU:Array (Option Value)}{kV doc pm c8 ct:Value}(X:K.In h)(G:h.Ns mainGlobals mg)
  (a:nsIn K mainGlobals x=some (some (.ref C)))(a1:findIn K (.ref C) "__init__"=some (some (.ref f)))(i1:isFn K (.ref f)=true)
  (l:K.lookup f=some ⟨oc,od,.func (fnOf "__init__" q (qj st) (gH st) (c9 st) .none kV doc pm an c8 ct),jU⟩)
  (c:codeIn K c8 q=true)(k:keepIn K (.ref f)=true)
  (pg:plainGet K C Str.empty=true)(hd:hasDictIn K C=true)(po:plainOver K C=true)(sa:findIn K (.ref C) "__setattr__"=some (some (.builtin "object.__setattr__")))(mk:makesIn K C=true)(kc:keepIn K (.ref C)=true)
  (b:∀(kV doc pm:Value) (an:Option Addr) (c8 ct:Value) (us:List Value),us.length=ps.length->bindArgs (fnOf "__init__" q (qj st) (gH st) (c9 st) .none kV doc pm an c8 ct) ⟨us,[]⟩=pure (ps.zip us))
  (n:NA K C fs):rX K mg x q st ps fs:=⟨C,ae9 X G a a1 i1 l c k pg hd po sa mk kc b,n⟩
def IA{P:List Value->Prop}(h:P []):∀us,us.length=0->P us
 |[],_=>h
def C5{P:List Value->Prop}{n:Nat}(h:∀a us,us.length=n->P (a::us)):∀us,us.length=n+1->P us
 |a::us,e=>h a us (Nat.succ.inj e)
end
end L2
namespace DY
open Sv68
theorem count_range{p:Nat->Bool}:∀{N k:Nat},k<=N->(∀i,i<k->p i=true)->(∀i,k<=i->i<N->p i=false)->((List.range N).filter p).length=k
 |0,k,h,_,_=>by
  have:k=0:=();subst this;rfl
 |N+1,k,h,h1,h2=>by
  rw[List.range_succ,List.filter_append,aC]
  by_cases q:k<=N
  .rw[count_range q h1 λi a b=>h2 i a ()];simp[h2 N q ()]
  .have:k=N+1:=();subst this;rw[count_range (k:=N) () (λi a=>h1 i ()) (λi a b=>cJ b ())];simp[h1 N ()]
def LD(y:Nat):leap y=true↔(y%4=0/\(y%100≠0\/y%400=0)):=by
 unfold leap;simp[bne]
def JM:yearStart 1900=0:=()
def FI(k y:Nat)(hk:0<k)(hy:1<=y):y/k=(y-1)/k+(if y%k=0 then 1 else 0):=by
 obtain⟨z,rfl⟩:∃z,y=z+1:=⟨y-1,()⟩;rw[show z+1-1=z by lia,Nat.succ_div];congr 1
 by_cases h:k ∣ z+1
 .rw[ah h,ah (Nat.mod_eq_zero_of_dvd h)]
 .rw[aa h,aa λe=>h (Nat.dvd_of_mod_eq_zero e)]
def Ah{y:Nat}(h:1900<=y):yearStart (y+1)=yearStart y+(if leap y=true then 366 else 365):=by
 have hl:=LD y;have d1:=FI 4 y () ();have d2:=FI 100 y () ();have d3:=FI 400 y () ();have g1:25*((y-1)/100)<=(y-1)/4:=();have g2:474<=(y-1)/4:=();have g3:4<=(y-1)/400:=();have m1:y%100=0->y%4=0:=();have m2:y%400=0->y%100=0:=();unfold yearStart;rw[show y+1-1=y by lia,d1,d2,d3];generalize (y-1)/4=a at*;generalize (y-1)/100=b at*;generalize (y-1)/400=c at*
 by_cases q4:y%4=0
 .by_cases q1:y%100=0
  .by_cases q0:y%400=0
   .rw[ah q4,ah q1,ah q0,ah (hl.mpr ⟨q4,.inr q0⟩)];clear m1 m2 q4 q1 q0 hl d1 d2 d3;lia
   .rw[ah q4,ah q1,aa q0,aa λz=>(hl.mp z).2.elim (λw=>w q1) q0];clear m1 m2 q4 q1 q0 hl d1 d2 d3;lia
  .rw[ah q4,aa q1,aa λz=>q1 (m2 z),ah (hl.mpr ⟨q4,.inl q1⟩)];clear m1 m2 q4 q1 hl d1 d2 d3;lia
 .rw[aa q4,aa λz=>q4 (m1 z),aa λz=>q4 (m1 (m2 z)),aa λz=>q4 (hl.mp z).1];clear m1 m2 q4 hl d1 d2 d3;lia
theorem Aj{y:Nat}(h:1900<=y):∀k,yearStart y+k<=yearStart (y+k)
 |0=>aI _
 |k+1=>by
  have:=Aj h k;have e:=Ah (y:=y+k) ();rw[show y+(k+1)=y+k+1 by lia,e];split<;>lia
def JD(y:Nat):monthStart y 1=0:=rfl
def xS{y m:Nat}(h:1<=m):monthStart y (m+1)=monthStart y m+monthDays y m:=by
 unfold monthStart;obtain⟨k,rfl⟩:∃k,m=k+1:=⟨m-1,()⟩;rw[show k+1+1-1=k+1 by lia,show k+1-1=k by lia,List.range_succ,bf,List.sum_append];simp
def JE{y m:Nat}:28<=monthDays y m/\monthDays y m<=31:=by
 unfold monthDays
 repeat' split
 all_goals lia
theorem xU{y m:Nat}(h:1<=m):∀k,monthStart y m+k<=monthStart y (m+k)
 |0=>aI _
 |k+1=>by
  have:=xU (y:=y) h k;have e:=xS (y:=y) (m:=m+k) ();have:=JE (y:=y) (m:=m+k);rw[show m+(k+1)=m+k+1 by lia,e];lia
def Dy(y:Nat):monthStart y 13=if leap y=true then 366 else 365:=by
 unfold monthStart monthDays;cases leap y<;>rfl
def GR(y m d:Nat):Prop:=1900<=y/\y<=9999/\1<=m/\m<=12/\1<=d/\d<=monthDays y m
def ac8{y m d:Nat}(h:1<=m)(h2:m<=12)(hd:d<=monthDays y m):monthStart y m+d<=monthStart y 13:=by
 have e:=xS (y:=y) h;have:=xU (y:=y) (m:=m+1) () (12-m);rw[show m+1+(12-m)=13 by lia]at this;lia
def WK{y m d:Nat}(h:GR y m d):dateOf (dayOf y m d)=(y,m,d):=by
 obtain⟨h1,h2,h3,h4,h5,h6⟩:=h;have HP:=ac8 h3 h4 h6;have CT:=Dy y;have ys:=Ah h1;have hy:((List.range 8100).filter λi=>decide (yearStart (1900+i)<dayOf y m d)).length=y-1899:=by
  refine count_range () (λi hi=>?_) λi hi hN=>?_
  .have:=Aj (y:=1900+i) () (y-1900-i);rw[show 1900+i+(y-1900-i)=y by lia]at this;unfold dayOf;exact ak ()
  .have:=Aj (y:=y+1) () (1900+i-(y+1));rw[show y+1+(1900+i-(y+1))=1900+i by lia]at this;unfold dayOf;exact ao ()
 unfold dateOf;rw[aa (by unfold dayOf;lia)];simp only[hy];rw[show y-1899+1899=y by lia];have hr:dayOf y m d-yearStart y=monthStart y m+d:=by unfold dayOf;lia
 rw[hr];have hm:((List.range 12).filter λi=>decide (monthStart y (i+1)<monthStart y m+d)).length=m:=by
  refine count_range h4 (λi hi=>?_) λi hi hN=>?_
  .have:=xU (y:=y) (m:=i+1) () (m-1-i);rw[show i+1+(m-1-i)=m by lia]at this;exact ak ()
  .have:=xU (y:=y) (m:=m+1) () (i-m);rw[show m+1+(i-m)=i+1 by lia,xS h3]at this;exact ao ()
 rw[hm,show monthStart y m+d-monthStart y m=d by lia]
def ai2{n:Nat}(h1:1<=n)(h2:n<=LASTDAY):∃y m d,GR y m d/\dayOf y m d=n:=by
 have last:yearStart 10000=2958464:=();have hy:∀k,n<=yearStart (1900+k)->∃y,1900<=y/\y<1900+k/\yearStart y<n/\n<=yearStart (y+1):=by
  intro k
  induction k with
  |zero=>intro h;rw[show 1900+0=1900 from rfl,JM]at h;lia
  |succ k ih=>
   intro h
   by_cases q:n<=yearStart (1900+k)
   .obtain⟨y,a,b,c⟩:=ih q;exact⟨y,a,(),c⟩
   .exact⟨1900+k,(),(),(),h⟩
 obtain⟨y,a,b,c,e⟩:=hy 8100 (by rw[show 1900+8100=10000 from rfl,last];exact h2);rw[Ah a,<-Dy]at e;have hm:∀k,n-yearStart y<=monthStart y (1+k)->∃m,1<=m/\m<1+k/\monthStart y m<n-yearStart y/\n-yearStart y<=monthStart y (m+1):=by
  intro k
  induction k with
  |zero=>intro h;rw[show 1+0=1 from rfl,JD]at h;lia
  |succ k ih=>
   intro h
   by_cases q:n-yearStart y<=monthStart y (1+k)
   .obtain⟨m,a,b,c⟩:=ih q;exact⟨m,a,(),c⟩
   .exact⟨1+k,(),(),(),h⟩
 obtain⟨m,ma,mb,mc,md⟩:=hm 12 (by rw[show 1+12=13 from rfl];lia);rw[xS ma]at md;exact⟨y,m,n-yearStart y-monthStart y m,⟨a,(),ma,(),(),()⟩,by unfold dayOf;lia⟩
def K4{n y m d:Nat}(h:GR y m d)(e:dayOf y m d=n):dateOf n=(y,m,d):=by
 rw[<-e];exact WK h
end DY
namespace SH
open Sv68
abbrev cS:=List UInt8
def j8(c:UInt8):cS:=if c=48 then [48]else if c=63 then [32]else []
def ff(l:List Piece):cS:=l.filterMap λp=>match p with
 | .place c=>some c
 |_=>none
def qd(l:List Piece):(ff l).length=count l isPlace:=by
 induction l with
 |nil=>rfl
 |cons p l ih=>
  cases p with
  |place c=>exact cI Nat.succ ih
  |_=>exact ih
def fC:List Piece->List cS->cS
 |[],_=>[]
 |p::l,cs=>match p with
  | .place _=>cs.headD []++fC l (cs.drop 1)
  | .text b=>b++fC l cs
  | .percent=>37::fC l cs
  | .point=>46::fC l cs
  |_=>fC l cs
theorem mV:∀(a b:List Piece) (cs ds:List cS),cs.length=count a isPlace->fC (a++b) (cs++ds)=fC a cs++fC b ds
 |[],b,cs,ds,h=>by
  have:cs=[]:=bG h;subst this;rfl
 |p::a,b,cs,ds,h=>by
  cases p with
  |place c=>
   cases cs with
   |nil=>exact cJ (show 0=count a isPlace+1 from h) ()
   |cons x cs=>
    have ih:=mV a b cs ds (Nat.succ.inj h);show x++fC (a++b) (cs++ds)=(x++fC a cs)++fC b ds;rw[ih,bw]
  |text t=>
   have ih:=mV a b cs ds h;show t++fC (a++b) (cs++ds)=(t++fC a cs)++fC b ds;rw[ih,bw]
  |percent=>
   have ih:=mV a b cs ds h;show 37::fC (a++b) (cs++ds)=(37::fC a cs)++fC b ds;rw[ih];rfl
  |point=>
   have ih:=mV a b cs ds h;show 46::fC (a++b) (cs++ds)=(46::fC a cs)++fC b ds;rw[ih];rfl
  |comma=>exact mV a b cs ds h
  |power x=>exact mV a b cs ds h
  |itself=>exact mV a b cs ds h
  |clock x y z=>exact mV a b cs ds h
  |passed x y z=>exact mV a b cs ds h
  |half x=>exact mV a b cs ds h
  |general=>exact mV a b cs ds h
def jq(places ds:cS):List cS:=match places with
 |[]=>[]
 |c::r=>(if(ds.any λd=>d != 48)=true then [ds.headD 48]else j8 c)::jq r (ds.drop 1)
theorem oz:∀(t:List Piece) (ds:cS),(t.all λp=>p != .point)=true->tenthsOut t ds=fC t (jq (ff t) ds)
 |[],_,_=>rfl
 |p::t,ds,h=>by
  rw[bu,aE]at h;cases p with
  |place c=>
   show _++tenthsOut t (ds.drop 1)=_++fC t (jq (ff t) (ds.drop 1));rw[oz t (ds.drop 1) h.2];congr 1
  |text b=>
   show b++tenthsOut t ds=b++fC t (jq (ff t) ds);rw[oz t ds h.2]
  |percent=>
   show 37::tenthsOut t ds=37::fC t (jq (ff t) ds);rw[oz t ds h.2]
  |point=>exact cJ h.1 ()
  |comma=>exact oz t ds h.2
  |power x=>exact oz t ds h.2
  |itself=>exact oz t ds h.2
  |clock x y z=>exact oz t ds h.2
  |passed x y z=>exact oz t ds h.2
  |half x=>exact oz t ds h.2
  |general=>exact oz t ds h.2
def iF:cS->cS->List cS
 |[],_=>[]
 |c::ps,ds=>match ds with
  |[]=>j8 c::iF ps []
  |d::r=>if ps=[]then [(d::r).reverse]else [d]::iF ps r
def nJ(j:Nat)(x:UInt8):cS:=x::(if 0<j/\j%3=0 then [if x=32 then 32 else 44]else [])
def g8:Nat->cS->cS
 |_,[]=>[]
 |i,x::r=>nJ (i+r.length) x++g8 i r
def B_:List cS->Nat->List cS
 |[],_=>[]
 |c::cs,i=>g8 i c::B_ cs (i+c.length)
def jC(eW:Bool)(cs:List cS)(i:Nat):List cS:=if eW=true then B_ cs i else cs
def gO:List Piece->List cS->cS
 |[],_=>[]
 |p::l,cs=>match p with
  | .place _=>gO l (cs.drop 1)++cs.headD []
  | .text b=>gO l cs++b
  | .percent=>gO l cs++[37]
  |_=>gO l cs
def Ei(eW:Bool)(c:cS)(cs:List cS)(i:Nat):jC eW (c::cs) i=(if eW=true then g8 i c else c)::jC eW cs (i+c.length):=by
 unfold jC;cases eW<;>rfl
def Ej(i:Nat)(x:UInt8):g8 i [x]=nJ i x:=by
 show nJ (i+0) x++[]=_;rw[aU];rfl
def LH{d:UInt8}(h:isDigit d=true):d≠32:=λe=>by
 rw[e]at h;exact cJ h ()
def WH(i:Nat):∀ds:cS,ds.all isDigit=true->g8 i ds.reverse=(ds.zipIdx.reverse).flatMap λx=>x.1::(if 0<i+x.2/\(i+x.2)%3=0 then [44]else []):=by
 intro ds h;have go:∀(n:Nat) (ds:cS),ds.length=n->ds.all isDigit=true->g8 i ds.reverse=(ds.zipIdx.reverse).flatMap λx=>x.1::(if 0<i+x.2/\(i+x.2)%3=0 then [44]else []):=by
  intro n
  induction n with
  |zero=>
   intro ds hl _;rw[bG hl];rfl
  |succ n ih=>
   intro ds hl h;rcases bW ds with rfl|⟨iX,d,rfl⟩
   .cases hl
   rw[bX]at*;rw[List.all_append,aE]at h;have hd:isDigit d=true:=by simpa using h.2
   rw[cB,List.zipIdx_append,cB,List.flatMap_append];show nJ (i+iX.reverse.length) d++g8 i iX.reverse=_;rw[ih iX (by simpa using hl) h.1,bF];congr 1;unfold nJ;rw[aa (LH hd)];simp
 exact go ds.length ds rfl h
def wX:Piece->Bool
 | .place c=>c==48||(c==35||c==63)
 | .point=>false
 |_=>true
theorem whole_eq(eW:Bool):∀(wr:List Piece) (i left:Nat) (ds:cS),wr.all wX=true->ds.all isDigit=true->left=count wr isPlace->wholeOut eW wr i left ds=gO wr (jC eW (iF (ff wr) ds) i)
 |[],_,_,_,_,_,_=>rfl
 |p::wr,i,left,ds,hp,hd,hl=>by
  rw[bu,aE]at hp;cases p with
  |place c=>
   have SE:left=count wr isPlace+1:=hl;have epl:ff (.place c::wr)=c::ff wr:=rfl;have Sd:=qd wr;rw[epl];cases ds with
   |nil=>
    have ih:=whole_eq eW wr (if c=35 then i else i+1) (left-1) [] hp.2 rfl ();have hc:c=48\/c=35\/c=63:=by
     have:=hp.1;simpa[wX] using this
    show wholeOut eW wr (if c=35 then i else i+1) (left-1) []++(if c=48 then(48::if eW=true/\0<i/\i%3=0 then [44]else [])else if c=63 then 32::(if eW=true/\0<i/\i%3=0 then [32]else [])else [])=gO (.place c::wr) (jC eW (j8 c::iF (ff wr) []) i);rw[ih,Ei];show _=gO wr (jC eW (iF (ff wr) []) (i+(j8 c).length))++(if eW=true then g8 i (j8 c)else j8 c);have g1:g8 i [48]=48::(if 0<i/\i%3=0 then [44]else []):=by rw[Ej];rfl
    have g2:g8 i [32]=32::(if 0<i/\i%3=0 then [32]else []):=by rw[Ej];rfl
    rcases hc with rfl|rfl|rfl
    .show _=gO wr (jC eW (iF (ff wr) []) (i+1))++(if eW=true then g8 i [48]else [48]);rw[g1];cases eW<;>simp
    .show _=gO wr (jC eW (iF (ff wr) []) (i+0))++(if eW=true then g8 i []else []);cases eW<;>rfl
    .show _=gO wr (jC eW (iF (ff wr) []) (i+1))++(if eW=true then g8 i [32]else [32]);rw[g2];cases eW<;>simp
   |cons d r=>
    rw[bu,aE]at hd
    by_cases h1:left=1
    .have w_:count wr isPlace=0:=();have e0:ff wr=[]:=bG ();have ih:=whole_eq eW wr (i+(d::r).length) 0 [] hp.2 rfl w_.symm;rw[e0]at ih;have hs:wholeOut eW (.place c::wr) i left (d::r)=if left=1 then wholeOut eW wr (i+(d::r).length) 0 []++(((d::r).zipIdx.reverse).flatMap λx=>x.1::(if eW=true/\0<i+x.2/\(i+x.2)%3=0 then [44]else []))else wholeOut eW wr (i+1) (left-1) r++(d::(if eW=true/\0<i/\i%3=0 then [44]else [])):=rfl;rw[hs,ah h1,ih,e0];show _=gO (.place c::wr) (jC eW [(d::r).reverse] i);rw[Ei];show _=gO wr (jC eW [] _)++(if eW=true then g8 i (d::r).reverse else(d::r).reverse);have gd:=WH i (d::r) (by rw[bu,aE];exact hd);cases eW with
     |true=>
      rw[ah rfl,gd];simp;rfl
     |false=>
      rw[aa ()];congr 1;have e:((λx:UInt8×Nat=>x.1::(if false=true/\0<i+x.2/\(i+x.2)%3=0 then [(44:UInt8)]else [])):UInt8×Nat->cS)=λx=>[x.1]:=by
       funext x;simp
      have fm:∀l:List (UInt8×Nat),(l.flatMap λx=>[x.1])=l.map Prod.fst:=λl=>by
       induction l with
       |nil=>rfl
       |cons x l ih=>rw[List.flatMap_cons,ih];rfl
      rw[e,fm,List.map_reverse,List.zipIdx_map_fst]
    .have ih:=whole_eq eW wr (i+1) (left-1) r hp.2 hd.2 ();have hs:wholeOut eW (.place c::wr) i left (d::r)=if left=1 then wholeOut eW wr (i+(d::r).length) 0 []++(((d::r).zipIdx.reverse).flatMap λx=>x.1::(if eW=true/\0<i+x.2/\(i+x.2)%3=0 then [44]else []))else wholeOut eW wr (i+1) (left-1) r++(d::(if eW=true/\0<i/\i%3=0 then [44]else [])):=rfl;have ne:ff wr≠[]:=λz=>by
      rw[z]at Sd;simp at Sd;lia
     rw[hs,aa h1,ih];have ec:iF (c::ff wr) (d::r)=[d]::iF (ff wr) r:=aa ne;rw[ec,Ei];show _=gO wr (jC eW (iF (ff wr) r) (i+1))++(if eW=true then g8 i [d]else [d]);congr 1;cases eW with
     |true=>
      rw[ah rfl,Ej];unfold nJ;rw[aa (LH hd.1)];simp
     |false=>simp
  |text b=>
   have ih:=whole_eq eW wr i left ds hp.2 hd hl;show wholeOut eW wr i left ds++b=gO wr (jC eW (iF (ff wr) ds) i)++b;rw[ih]
  |percent=>
   have ih:=whole_eq eW wr i left ds hp.2 hd hl;show wholeOut eW wr i left ds++[37]=gO wr (jC eW (iF (ff wr) ds) i)++[37];rw[ih]
  |point=>exact cJ hp.1 ()
  |comma=>exact whole_eq eW wr i left ds hp.2 hd hl
  |power x=>exact whole_eq eW wr i left ds hp.2 hd hl
  |itself=>exact whole_eq eW wr i left ds hp.2 hd hl
  |clock x y z=>exact whole_eq eW wr i left ds hp.2 hd hl
  |passed x y z=>exact whole_eq eW wr i left ds hp.2 hd hl
  |half x=>exact whole_eq eW wr i left ds hp.2 hd hl
  |general=>exact whole_eq eW wr i left ds hp.2 hd hl
theorem iZ:∀(a b:List Piece) (cs ds:List cS),cs.length=count a isPlace->gO (a++b) (cs++ds)=gO b ds++gO a cs
 |[],b,cs,ds,h=>by
  have:cs=[]:=bG h;subst this;show gO b ds=gO b ds++[];rw[aU]
 |p::a,b,cs,ds,h=>by
  cases p with
  |place c=>
   cases cs with
   |nil=>exact cJ (show 0=count a isPlace+1 from h) ()
   |cons x cs=>
    have ih:=iZ a b cs ds (Nat.succ.inj h);show gO (a++b) (cs++ds)++x=gO b ds++(gO a cs++x);rw[ih,bw]
  |text t=>
   show gO (a++b) (cs++ds)++t=gO b ds++(gO a cs++t);rw[iZ a b cs ds h,bw]
  |percent=>
   show gO (a++b) (cs++ds)++[37]=gO b ds++(gO a cs++[37]);rw[iZ a b cs ds h,bw]
  |point=>exact iZ a b cs ds h
  |comma=>exact iZ a b cs ds h
  |power x=>exact iZ a b cs ds h
  |itself=>exact iZ a b cs ds h
  |clock x y z=>exact iZ a b cs ds h
  |passed x y z=>exact iZ a b cs ds h
  |half x=>exact iZ a b cs ds h
  |general=>exact iZ a b cs ds h
def l7(l:List Piece):count l.reverse isPlace=count l isPlace:=by
 unfold count;rw[List.filter_reverse,bF]
theorem m7:∀(w:List Piece) (cs:List cS),w.all wX=true->cs.length=count w isPlace->gO w.reverse cs.reverse=fC w cs
 |[],_,_,_=>rfl
 |p::w,cs,hw,h=>by
  rw[bu,aE]at hw;rw[List.reverse_cons];cases p with
  |place c=>
   cases cs with
   |nil=>exact cJ (show 0=count w isPlace+1 from h) ()
   |cons x cs=>
    have hl:cs.length=count w isPlace:=Nat.succ.inj h;rw[List.reverse_cons,iZ _ _ _ _ (by rw[bF,l7,hl]),m7 w cs hw.2 hl];rfl
  |point=>exact cJ hw.1 ()
  |text t=>
   have:=iZ w.reverse [.text t] cs.reverse [] (by rw[bF,l7];exact h);rw[aU]at this;rw[this,m7 w cs hw.2 h];rfl
  |percent=>
   have:=iZ w.reverse [.percent] cs.reverse [] (by rw[bF,l7];exact h);rw[aU]at this;rw[this,m7 w cs hw.2 h];rfl
  |comma=>
   have:=iZ w.reverse [.comma] cs.reverse [] (by rw[bF,l7];exact h);rw[aU]at this;rw[this,m7 w cs hw.2 h];rfl
  |power x=>
   have:=iZ w.reverse [.power x] cs.reverse [] (by rw[bF,l7];exact h);rw[aU]at this;rw[this,m7 w cs hw.2 h];rfl
  |itself=>
   have:=iZ w.reverse [.itself] cs.reverse [] (by rw[bF,l7];exact h);rw[aU]at this;rw[this,m7 w cs hw.2 h];rfl
  |clock x y z=>
   have:=iZ w.reverse [.clock x y z] cs.reverse [] (by rw[bF,l7];exact h);rw[aU]at this;rw[this,m7 w cs hw.2 h];rfl
  |passed x y z=>
   have:=iZ w.reverse [.passed x y z] cs.reverse [] (by rw[bF,l7];exact h);rw[aU]at this;rw[this,m7 w cs hw.2 h];rfl
  |half x=>
   have:=iZ w.reverse [.half x] cs.reverse [] (by rw[bF,l7];exact h);rw[aU]at this;rw[this,m7 w cs hw.2 h];rfl
  |general=>
   have:=iZ w.reverse [.general] cs.reverse [] (by rw[bF,l7];exact h);rw[aU]at this;rw[this,m7 w cs hw.2 h];rfl
def cellAt(k:Nat)(ds:cS)(at_:Nat)(c:UInt8):cS:=if 0<ds.length-(k-1-at_)then(ds.take (ds.length-(k-1-at_))).drop (if at_=0 then 0 else ds.length-(k-1-at_)-1)else j8 c
def jT(places ds:cS):List cS:=places.zipIdx.map λx=>cellAt places.length ds x.2 x.1
def EI(places ds:cS):(jT places ds).length=places.length:=by
 unfold jT;rw[az,List.length_zipIdx]
def aq9:∀(n:Nat) (places ds:cS),places.length=n->(places=[]->ds=[])->jT places ds=(iF places.reverse ds.reverse).reverse:=by
 intro n
 induction n with
 |zero=>
  intro places ds hl h;have:=bG hl;subst this;rfl
 |succ n ih=>
  intro places ds hl _;rcases bW places with rfl|⟨ps,c,rfl⟩
  .cases hl
  rw[bX]at*;have hn:ps.length=n:=by simpa using hl
  have e1:jT (ps++[c]) ds=(ps.zipIdx.map λx=>cellAt (n+1) ds x.2 x.1)++[cellAt (n+1) ds n c]:=by
   unfold jT;rw[List.zipIdx_append,bf,aC,hn,Nat.zero_add];rfl
  rw[e1,cB];show _=(iF (c::ps.reverse) ds.reverse).reverse;rcases bW ds with rfl|⟨iX,d,rfl⟩
  .have e2:(iF (c::ps.reverse) ([]:cS).reverse).reverse=(iF ps.reverse []).reverse++[j8 c]:=by
    show(j8 c::iF ps.reverse []).reverse=_;rw[List.reverse_cons]
   rw[e2];have:=ih ps [] hn (λ_=>rfl);unfold jT at this;rw[hn]at this;show _=(iF ps.reverse ([]:cS).reverse).reverse++_;rw[<-this];have ez:∀k i x,cellAt k [] i x=j8 x:=λk i x=>aa (by simp);simp only[ez]
  .rw[bX,cB];show _=(iF (c::ps.reverse) (d::iX.reverse)).reverse
   by_cases hp:ps=[]
   .subst hp;have zJ:n=0:=by simpa using hn.symm
    subst zJ;have e2:iF (c::([]:cS).reverse) (d::iX.reverse)=[(d::iX.reverse).reverse]:=by
     show iF [c] (d::iX.reverse)=_;rfl
    rw[e2];show [cellAt 1 (iX++[d]) 0 c]=[(d::iX.reverse).reverse];unfold cellAt;rw[ah (by simp),ah rfl,List.drop_zero,bq (by simp)];simp
   .have e2:iF (c::ps.reverse) (d::iX.reverse)=[d]::iF ps.reverse iX.reverse:=aa (by simpa using hp);rw[e2,List.reverse_cons];have zI:1<=n:=by
     have:=List.length_pos_iff.mpr hp;lia
    have:=ih ps iX hn (λz=>cJ z hp);rw[<-this];unfold jT;rw[hn];congr 1
    .refine cC λx hx=>?_;have Hu:x.2<n:=by
      have:=List.mem_zipIdx hx;lia
     unfold cellAt;have e3:(iX++[d]).length-(n+1-1-x.2)=iX.length-(n-1-x.2):=by
      rw[aC];show iX.length+1-_=_;lia
     rw[e3]
     by_cases z:0<iX.length-(n-1-x.2)
     .rw[ah z,ah z,List.take_append_of_le_length ()]
     .rw[aa z,aa z]
    .unfold cellAt;have e3:(iX++[d]).length-(n+1-1-n)=iX.length+1:=by
      rw[aC];show iX.length+1-_=_;lia
     rw[e3,ah (),aa ()];rw[bq (by simp),show iX.length+1-1=iX.length by lia,List.drop_left]
def kE:List cS->Nat->List cS
 |[],_=>[]
 |c::cs,left=>g8 (left-c.length) c::kE cs (left-c.length)
theorem Oc:∀(cs:List cS) (i:Nat),kE cs.reverse ((cs.map List.length).sum+i)=(B_ cs i).reverse
 |[],i=>rfl
 |c::cs,i=>by
  have app:∀(a:List cS) (x:cS) (n:Nat),(a.map List.length).sum+x.length<=n->kE (a++[x]) n=kE a n++[g8 (n-(a.map List.length).sum-x.length) x]:=by
   intro a
   induction a with
   |nil=>intro x n h;simp[kE]
   |cons y a ih=>
    intro x n h;rw[aX,List.sum_cons]at h;show g8 _ y::kE (a++[x]) (n-y.length)=g8 _ y::(kE a (n-y.length)++_);rw[ih x (n-y.length) (),aX,List.sum_cons,show n-y.length-(a.map List.length).sum-x.length=n-(y.length+(a.map List.length).sum)-x.length by lia]
  have Ry:(cs.reverse.map List.length).sum=(cs.map List.length).sum:=by
   rw[List.map_reverse,List.sum_reverse]
  rw[List.reverse_cons,aX,List.sum_cons,app _ _ _ (by rw[Ry];lia),Ry];show _=(g8 i c::B_ cs (i+c.length)).reverse;rw[List.reverse_cons,<-Oc cs (i+c.length)];rw[show c.length+(cs.map List.length).sum+i=(cs.map List.length).sum+(i+c.length) by lia,show(cs.map List.length).sum+(i+c.length)-(cs.map List.length).sum-c.length=i by lia]
def jh(p:Piece):Bool:=p != .point
def wz:Piece->Bool
 | .power _=>false
 |_=>true
def Gj(l:List Piece):beforePower l=l.takeWhile wz:=by
 unfold beforePower;congr 1
def wp_eq(l:List Piece):wholePart l=(beforePower l).takeWhile jh:=by
 rw[Gj];unfold wholePart;have e:(λp:Piece=>match p with
  | .point=>false
  | .power _=>false
  |_=>true)=λp=>wz p&&jh p:=by
  funext p;cases p<;>rfl
 induction l with
 |nil=>rfl
 |cons p l ih=>
  rw[aF,aF];cases p<;>first |rfl|(show _::_=List.takeWhile jh (_::_);rw[aF];exact cI _ ih)
def A3(l:List Piece):beforePower l=wholePart l++(beforePower l).drop (wholePart l).length:=by
 rw[wp_eq];generalize beforePower l=b
 induction b with
 |nil=>rfl
 |cons p b ih=>
  rw[aF];cases h:jh p with
  |true=>
   show p::b=p::(List.takeWhile jh b++List.drop (List.takeWhile jh b).length b);rw[<-ih]
  |false=>rfl
def A5(l:List Piece):(beforePower l).drop (wholePart l).length=[]\/(beforePower l).drop (wholePart l).length= .point::tenthsPart l:=by
 unfold tenthsPart;rw[wp_eq];generalize beforePower l=b
 induction b with
 |nil=>exact .inl rfl
 |cons p b ih=>
  rw[aF];cases h:jh p with
  |true=>
   show List.drop ((List.takeWhile jh b).length+1) (p::b)=[]\/List.drop ((List.takeWhile jh b).length+1) (p::b)=_::List.drop 1 (List.drop ((List.takeWhile jh b).length+1) (p::b));rw[List.drop_succ_cons];exact ih
  |false=>
   refine .inr ?_;have:p= .point:=by
    unfold jh at h;simpa using h
   subst this;rfl
def za:Piece->Bool
 | .place c=>c==48||(c==35||c==63)
 |_=>true
def az8{w:List Piece}(h1:w.all za=true)(h2:w.all jh=true):w.all wX=true:=by
 refine bg.mpr λp hp=>?_;have a:=bg.mp h1 p hp;have b:=bg.mp h2 p hp;cases p<;>first |rfl|exact a|(unfold jh at b;simp at b)
def jB(g:Bool)(places ds:cS):List cS:=if g=true then kE (jT places ds) ((jT places ds).map List.length).sum else jT places ds
def Av(g:Bool)(places ds:cS):(jB g places ds).length=places.length:=by
 have gl:∀(cs:List cS) (n:Nat),(kE cs n).length=cs.length:=by
  intro cs
  induction cs with
  |nil=>intro n;rfl
  |cons c cs ih=>intro n;exact cI Nat.succ (ih _)
 unfold jB;split
 .rw[gl,EI]
 .exact EI _ _
def YF(g:Bool)(w:List Piece)(ds:cS)(h1:w.all wX=true)(hd:ds.all isDigit=true):wholeOut g w.reverse 0 (count w isPlace) ds.reverse=fC w (jB g (ff w) (if ff w=[]then []else ds)):=by
 have Sa:ff w.reverse=(ff w).reverse:=by
  unfold ff;rw[List.filterMap_reverse]
 have Qt:w.reverse.all wX=true:=by rw[List.all_reverse];exact h1
 by_cases hp:ff w=[]
 .rw[ah hp,hp];have hc:count w isPlace=0:=by rw[<-qd,hp];rfl
  have e0:∀(wr:List Piece) (i:Nat) (ds:cS),count wr isPlace=0->wholeOut g wr i 0 ds=wholeOut g wr i 0 []:=by
   intro wr
   induction wr with
   |nil=>intro i ds _;rfl
   |cons p wr ih=>
    intro i ds hc;cases p with
    |place c=>exact cJ (show count wr isPlace+1=0 from hc) ()
    |text b=>show wholeOut g wr i 0 ds++b=wholeOut g wr i 0 []++b;rw[ih i ds hc]
    |percent=>show wholeOut g wr i 0 ds++[37]=wholeOut g wr i 0 []++[37];rw[ih i ds hc]
    |point=>exact ih i ds hc
    |comma=>exact ih i ds hc
    |power x=>exact ih i ds hc
    |itself=>exact ih i ds hc
    |clock x y z=>exact ih i ds hc
    |passed x y z=>exact ih i ds hc
    |half x=>exact ih i ds hc
    |general=>exact ih i ds hc
  rw[hc,e0 _ _ _ (by rw[l7];exact hc),whole_eq g w.reverse 0 0 [] Qt rfl (by rw[l7];exact hc.symm),Sa,hp];have:=m7 w [] h1 (by rw[hc];rfl);show gO w.reverse (jC g [] 0)=fC w (jB g [] []);have eg:jC g [] 0=([]:List cS).reverse:=by unfold jC;cases g<;>rfl
  have ew:jB g [] []=[]:=by unfold jB;cases g<;>rfl
  rw[eg,this,ew]
 .rw[aa hp,whole_eq g w.reverse 0 _ _ Qt (by rw[List.all_reverse];exact hd) (by rw[l7]),Sa];have ew:=aq9 (ff w).length (ff w) ds rfl (λz=>cJ z hp);have hl:(jB g (ff w) ds).length=count w isPlace:=by rw[Av,qd]
  rw[<-m7 w _ h1 hl];congr 1;unfold jB jC;cases g with
  |false=>
   rw[aa (),aa (),ew,List.reverse_reverse]
  |true=>
   rw[ah rfl,ah rfl,ew];have:=Oc (iF (ff w).reverse ds.reverse) 0;rw[Nat.add_zero]at this;rw[List.map_reverse,List.sum_reverse,this,List.reverse_reverse]
def wC(l:List Piece)(q:Nat):cS:=
 let w:=ff (wholePart l);let t:=ff ((beforePower l).drop (wholePart l).length)
 fC (beforePower l) (jB (grouped (wholePart l)) w (if w=[]then []else bare (q/10^t.length))++jq t (padded t.length (q%10^t.length)))
def VM(n:Nat):(decimal n).all isDigit=true:=by
 unfold decimal;rw[List.all_map];refine bg.mpr λc hc=>?_;have h:=Nat.isDigit_of_mem_toDigits (b:=10) () () hc;show isDigit (UInt8.ofNat c.toNat)=true;have h1:48<=c.toNat/\c.toNat<=57:=by
  unfold Char.isDigit at h;simp at h;exact h
 unfold isDigit;rw[UInt8.toNat_ofNat_of_lt' (show c.toNat<256 by omega)];simp;omega
def XM(n:Nat):(bare n).all isDigit=true:=by
 unfold bare;split
 .rfl
 .exact VM n
def fill_eq(l:List Piece)(q:Nat)(h:l.all za=true)(uZ:(tenthsPart l).all jh=true):digitsOut l q=wC l q:=by
 have hw1:(wholePart l).all za=true:=by
  refine bg.mpr λp hp=>bg.mp h p ?_;unfold wholePart at hp;exact(List.takeWhile_sublist _).subset hp
 have Su:(wholePart l).all jh=true:=by
  rw[wp_eq];exact List.all_takeWhile
 have et:ff ((beforePower l).drop (wholePart l).length)=ff (tenthsPart l):=by
  rcases A5 l with e|e
  .unfold tenthsPart;rw[e];rfl
  .rw[e];rfl
 unfold wC;dsimp only;rw[et,qd]
 conv=>rhs;rw[A3 l]
 have hl:(jB (grouped (wholePart l)) (ff (wholePart l)) (if ff (wholePart l)=[]then []else bare (q/10^count (tenthsPart l) isPlace))).length=count (wholePart l) isPlace:=by rw[Av,qd]
 rw[mV _ _ _ _ hl];show wholeOut (grouped (wholePart l)) (wholePart l).reverse 0 (count (wholePart l) isPlace) (bare (q/10^count (tenthsPart l) isPlace)).reverse++((if hasPoint (beforePower l)=true then [46]else [])++tenthsOut (tenthsPart l) (if count (tenthsPart l) isPlace=0 then []else padded (count (tenthsPart l) isPlace) (q%10^count (tenthsPart l) isPlace)))=_;rw[YF _ _ _ (az8 hw1 Su) (XM _)];congr 1;have hd:∀ds,tenthsOut (tenthsPart l) (if count (tenthsPart l) isPlace=0 then []else ds)=fC (tenthsPart l) (jq (ff (tenthsPart l)) ds):=λds=>by
  rw[oz _ _ uZ]
  by_cases z:count (tenthsPart l) isPlace=0
  .have:ff (tenthsPart l)=[]:=bG (by rw[qd];exact z);rw[this];rfl
  .rw[aa z]
 rw[hd];have hh:∀b:List Piece,b.all jh=true->hasPoint b=false:=λb hb=>by
  unfold hasPoint;rw[Bool.eq_false_iff];intro z;obtain⟨p,hp,e⟩:=List.any_eq_true.mp z;have:=bg.mp hb p hp;unfold jh at this;rw[show p= .point by simpa using e]at this;exact cJ this ()
 rcases A5 l with e|e
 .have e2:tenthsPart l=[]:=by unfold tenthsPart;rw[e];rfl
  rw[e,e2];have:beforePower l=wholePart l:=by
   have:=A3 l;rw[e,aU]at this;exact this
  rw[this,hh _ Su];rfl
 .rw[e];have:hasPoint (beforePower l)=true:=by
   rw[A3 l,e];unfold hasPoint;rw[List.any_append];simp
  rw[this];rfl
def xY(n:Nat):(decimal n).length=(Nat.toDigits 10 n).length:=by
 unfold decimal;rw[az]
def xX(n:Nat):0<(decimal n).length:=by
 rw[xY];exact Nat.length_toDigits_pos
def DX(n:Nat):n<10^(decimal n).length:=by
 rw[xY];exact(Nat.length_toDigits_le_iff () Nat.length_toDigits_pos).mp (aI _)
def Yo{n:Nat}(h:0<n):10^((decimal n).length-1)<=n:=by
 rcases Nat.lt_or_ge ((decimal n).length-1) 1 with z|z
 .have:(decimal n).length-1=0:=();rw[this];exact h
 .rcases Nat.lt_or_ge n (10^((decimal n).length-1))with y|y
  .have:=(Nat.length_toDigits_le_iff (b:=10) () (show 0<(decimal n).length-1 by lia)).mpr y;rw[<-xY]at this;lia
  .exact y
theorem LO(p:Nat->Bool):∀(N m:Nat),m<N->p m=true->(∀i,m<i->i<N->p i=false)->(List.range N).reverse.find? p=some m
 |0,m,h,_,_=>cJ h ()
 |N+1,m,h,hp,hn=>by
  rw[List.range_succ,cB];show(N::(List.range N).reverse).find? p=some m;rw[List.find?_cons]
  by_cases e:m=N
  .subst e;rw[hp]
  .rw[hn N () ()];exact LO p N m () hp λi a b=>hn i a ()
def vX{a b:Nat}(h:a<=b):10^a<=10^b:=bL () h
def size_eq{z:Nat}(h0:0<z)(h1:z<10^60):size z (10^12)=((decimal z).length:Int)-1-12:=by
 have eF:=DX z;have lW:=Yo h0;have B4:=xX z;have hn:(decimal z).length<=60:=by
  rcases Nat.lt_or_ge 60 (decimal z).length with y|y
  .have:=vX (show 60<=(decimal z).length-1 by lia);lia
  .exact y
 generalize (decimal z).length=n at*;unfold size;rw[LO _ 121 (n+47) () ?_ ?_]
 .show((n+47:Nat):Int)-60=_;lia
 .by_cases h:60<=n+47
  .rw[ah h];refine ak ?_;rw[<-Nat.pow_add,show 12+(n+47-60)=n-1 by lia];exact lW
  .rw[aa h];refine ak ?_;have h2:10^(n-1)*10^(60-(n+47))<=z*10^(60-(n+47)):=Nat.mul_le_mul_right _ lW;rw[<-Nat.pow_add,show n-1+(60-(n+47))=12 by lia]at h2;exact h2
 .intro i hi hN
  by_cases h:60<=i
  .rw[ah h];refine ao ?_;rw[<-Nat.pow_add];have:=vX (show n<=12+(i-60) by lia);lia
  .rw[aa h];refine ao ?_;have h2:z*10^(60-i)<10^n*10^(60-i):=Nat.mul_lt_mul_of_pos_right eF (Nat.pow_pos ());rw[<-Nat.pow_add]at h2;have:=vX (show n+(60-i)<=12 by lia);lia
def Hh(l:List Piece):Nat:=count l λp=>p== .percent
def tn(l:List Piece):List Piece:=(beforePower l).drop (wholePart l).length
def dec(l:List Piece):Nat:=(ff (tn l)).length
def dec_eq(l:List Piece):dec l=count (tenthsPart l) isPlace:=by
 unfold dec tn;rcases A5 l with e|e
 .rw[e];unfold tenthsPart;rw[e];rfl
 .rw[e,<-qd];rfl
def uY(l:List Piece)(q:Nat):Bool:=decide (q%10^dec l=0)&&(decide (q/10^dec l=0)||decide (ff (wholePart l)=[]))
def Oa(l:List Piece)(q:Nat):(if count (wholePart l) isPlace=0 then q%10^dec l != 0 else q != 0)= !uY l q:=by
 unfold uY;have hp:ff (wholePart l)=[]↔count (wholePart l) isPlace=0:=by
  rw[<-qd];exact List.length_eq_zero_iff.symm
 have hd:=Nat.div_add_mod q (10^dec l)
 by_cases h:count (wholePart l) isPlace=0
 .rw[ah h,ak (hp.mpr h),Bool.or_true,Bool.and_true]
  by_cases z:q%10^dec l=0
  .rw[ak z,z];rfl
  .rw[ao z];simpa using z
 .rw[aa h,ao (λz=>h (hp.mp z)),Bool.or_false]
  by_cases z:q=0
  .subst z;simp
  .have hz:¬(q%10^dec l=0/\q/10^dec l=0):=λy=>z (by rw[y.1,y.2]at hd;simpa using hd.symm);have e1:(q != 0)=true:=by simpa using z
   rw[e1]
   by_cases y:q%10^dec l=0
   .rw[ao (λx=>hz ⟨y,x⟩),Bool.and_false];rfl
   .rw[ao y];rfl
def jt(z k:Nat):Int:=if z=0 then 0 else(((decimal z).length:Int)-1-12)/(k:Int)*(k:Int)
def mY(d z:Nat)(e:Int):Nat:=rounded (z*10^(d+(-e).toNat)) (10^12*10^e.toNat)
def W9(d z:Nat)(e:Int):scaled z (10^12) d e=mY d z e:=by
 unfold scaled mY
 by_cases h:0<=e
 .rw[ah h,show(-e).toNat=0 by lia];rfl
 .rw[aa h,show e.toNat=0 by lia,Nat.pow_zero,Nat.mul_one]
def lJ(d k z:Nat):Int×Nat:=
 let e0:=jt z k;let q0:=mY d z e0
 if q0=10^(k+d)then(e0+(k:Int),mY d z (e0+(k:Int)))else(e0,q0)
def Ax{a b c:Nat}(hb:0<b)(h:a<=c*b):rounded a b<=c:=by
 unfold rounded;refine Nat.le_of_lt_succ ?_;rw[Nat.div_lt_iff_lt_mul ()];have e:(c+1)*(2*b)=2*(c*b)+2*b:=by rw[Nat.succ_mul,Nat.mul_left_comm]
 rw[show c.succ=c+1 from rfl,e];lia
def Z9{d k z:Nat}(hk:0<k)(h1:z<10^60):mY d z (jt z k)<=10^(k+d):=by
 unfold mY jt
 by_cases hz:z=0
 .subst hz;refine Ax (Nat.mul_pos (Nat.pow_pos ()) (Nat.pow_pos ())) ?_;rw[Nat.zero_mul];exact aP _
 rw[aa hz];have eF:=DX z;generalize (decimal z).length=n at*;have rP:(0:Int)<(k:Int):=by omega
 have m1:=Int.emod_add_mul_ediv ((n:Int)-1-12) (k:Int);have m2:=Int.emod_lt_of_pos ((n:Int)-1-12) rP;have m3:=Int.emod_nonneg ((n:Int)-1-12) (show(k:Int)≠0 by omega);rw[Int.mul_comm]at m1;generalize ((n:Int)-1-12)/(k:Int)*(k:Int)=e at*;refine Ax (Nat.mul_pos (Nat.pow_pos ()) (Nat.pow_pos ())) ?_;refine aV (Nat.mul_le_mul_right _ (Nat.le_of_lt eF)) ?_;rw[<-Nat.pow_add,<-Nat.pow_add,<-Nat.pow_add];exact vX (by omega)
noncomputable def yi(l:List Piece)(z:Nat):cS×Bool:=
 match l.find? λp=>p== .power true||p== .power false with
 |none=>let q:=rounded (z*100^Hh l*10^dec l) (10^12*1000^trailing (wholePart l))
  (wC l q,uY l q)
 |some p=>
  let x:=lJ (dec l) (ff (wholePart l)).length z
  (wC l x.2++(69::((if x.1<0 then [45]else if p= .power true then [43]else [])++padded (behindPower l).length x.1.natAbs)),uY l x.2)
def Gk(l:List Piece):beforePower (beforePower l)=beforePower l:=by
 rw[Gj,Gj]
 induction l with
 |nil=>rfl
 |cons p l ih=>
  rw[aF];cases h:wz p with
  |true=>
   show List.takeWhile wz (p::List.takeWhile wz l)=p::List.takeWhile wz l;rw[aF,h];show p::_=_;rw[ih]
  |false=>rfl
def ML(l:List Piece)(q:Nat):digitsOut (beforePower l) q=digitsOut l q:=by
 have e1:wholePart (beforePower l)=wholePart l:=by rw[wp_eq,wp_eq,Gk]
 have e2:tenthsPart (beforePower l)=tenthsPart l:=by unfold tenthsPart;rw[Gk,e1]
 unfold digitsOut;rw[e1,e2,Gk]
def FJ(l:List Piece)(z:Nat)(h:l.all za=true)(uZ:(tenthsPart l).all jh=true)(hz:z<10^60)
  (hx:∀p,l.find? (λp=>p== .power true||p== .power false)=some p->Hh l=0/\trailing (wholePart l)=0/\1<=count (wholePart l) isPlace):digits l z=((yi l z).1,!(yi l z).2):=by
 unfold digits yi;dsimp only;cases hf:l.find? λp=>p== .power true||p== .power false with
 |none=>
  dsimp only;rw[<-dec_eq,fill_eq l _ h uZ,Oa];rfl
 |some p=>
  dsimp only;obtain⟨n1,n2,n3⟩:=hx p hf;have n1':count l (λp=>p== .percent)=0:=n1;rw[n1',n2];simp only[Nat.pow_zero,Nat.mul_one];rw[<-dec_eq,<-qd];simp only[W9];have e0:(if z=0 then(0:Int)else size z (10^12)/((ff (wholePart l)).length:Int)*((ff (wholePart l)).length:Int))=jt z (ff (wholePart l)).length:=by
   unfold jt
   by_cases y:z=0
   .rw[ah y,ah y]
   .rw[aa y,aa y,size_eq () hz]
  rw[e0];have hle:=Z9 (d:=dec l) (k:=(ff (wholePart l)).length) (z:=z) (by rw[qd];exact n3) hz;have ez:∀q,(q != 0)= !uY l q:=λq=>by
   rw[<-Oa,aa ()]
  unfold lJ;dsimp only
  by_cases y:mY (dec l) z (jt z (ff (wholePart l)).length)=10^((ff (wholePart l)).length+dec l)
  .rw[ah y,aa (),ML,fill_eq l _ h uZ,ez]
  .rw[aa y,ah (),ML,fill_eq l _ h uZ,ez]
def secs(l:List Piece):List Nat:=l.filterMap λp=>match p with
 | .clock c _ k=>if c=115 then some k else none
 | .passed c _ k=>if c=115 then some k else none
 |_=>none
def jk:List Nat->Nat
 |[]=>0
 |x::l=>max x (jk l)
theorem EC:∀{l:List Nat} {x:Nat},x∈l->x<=jk l
 |y::l,x,h=>by
  rcases aN.mp h with rfl|h
  .exact Nat.le_max_left _ _
  .exact aV (EC h) (Nat.le_max_right _ _)
theorem E5:∀{l:List Nat},l≠[]->jk l∈l
 |[x],_=>by
  show max x 0∈[x];rw[Nat.max_zero];exact aB
 |x::y::l,_=>by
  have ih:=E5 (l:=y::l) (by simp);show max x (jk (y::l))∈_;rcases Nat.le_total x (jk (y::l))with h|h
  .rw[Nat.max_eq_right h];exact aA _ ih
  .rw[Nat.max_eq_left h];exact aB
def ah0(l:List Piece):secondsIn l=if secs l=[]then none else some (jk (secs l)):=by
 have step:∀(l:List Piece) (m:Option Nat),l.foldl (λm p=>match p with
   | .clock 115 _ k=>some (max k (m.getD 0))
   | .passed 115 _ k=>some (max k (m.getD 0))
   |_=>m) m=if secs l=[]then m else some (max (m.getD 0) (jk (secs l))):=by
  intro l
  induction l with
  |nil=>intro m;rfl
  |cons p l ih=>
   intro m;rw[List.foldl_cons,ih];have one:∀k,(if secs l=[]then some (max k (m.getD 0))else some (max ((some (max k (m.getD 0))).getD 0) (jk (secs l))))=some (max (m.getD 0) (jk (k::secs l))):=λk=>by
    show _=some (max (m.getD 0) (max k (jk (secs l))))
    by_cases h:secs l=[]
    .rw[ah h,h];show some (max k (m.getD 0))=some (max (m.getD 0) (max k 0));rw[Nat.max_zero,Nat.max_comm]
    .rw[aa h];show some (max (max k (m.getD 0)) (jk (secs l)))=_;rw[Nat.max_comm k,Nat.max_assoc]
   cases p with
   |clock c n k=>
    by_cases h:c=115
    .subst h;have e:secs (.clock 115 n k::l)=k::secs l:=rfl;refine Eq.trans (one k) ?_;rw[e];exact(aa (by simp)).symm
    .have e:secs (.clock c n k::l)=secs l:=by
      unfold secs;rw[aJ];dsimp only;rw[aa h]
     rw[e];have e2:(match(Piece.clock c n k)with
      | .clock 115 _ k=>some (max k (m.getD 0))
      | .passed 115 _ k=>some (max k (m.getD 0))
      |_=>m)=m:=by
      split
      .rename_i h2;cases h2;exact cJ rfl h
      .rename_i h2;cases h2
      .rfl
     rw[e2]
   |passed c n k=>
    by_cases h:c=115
    .subst h;have e:secs (.passed 115 n k::l)=k::secs l:=rfl;refine Eq.trans (one k) ?_;rw[e];exact(aa (by simp)).symm
    .have e:secs (.passed c n k::l)=secs l:=by
      unfold secs;rw[aJ];dsimp only;rw[aa h]
     rw[e];have e2:(match(Piece.passed c n k)with
      | .clock 115 _ k=>some (max k (m.getD 0))
      | .passed 115 _ k=>some (max k (m.getD 0))
      |_=>m)=m:=by
      split
      .rename_i h2;cases h2
      .rename_i h2;cases h2;exact cJ rfl h
      .rfl
     rw[e2]
   |_=>rfl
 unfold secondsIn;refine(step l none).trans ?_
 by_cases h:secs l=[]
 .rw[ah h,ah h]
 .rw[aa h,aa h];show some (max 0 _)=_;rw[Nat.zero_max]
def yR(l:List Piece)(z:Nat):Nat:=if secs l=[]then z*86400/10^12*1000 else rounded (z*86400*10^jk (secs l)) (10^12)*10^(3-jk (secs l))
def lets(l:List Piece):cS:=clocks l
def qw(one:Bool)(T:Nat):cS:=if T%86400000<43200000 then(if one=true then [65]else str "AM")else if one=true then [80]else str "PM"
def kr(j T:Nat):cS:=if j=0 then []else 46::(padded 3 (T%1000)).take j
def uF(c:UInt8)(n j T:Nat):cS:=if c=104 then padded n (T/3600000)else if c=109 then padded n (T/60000)else padded n (T/1000)++kr j T
def uG(b:cS)(n:Nat):cS:=if n=3 then b.take 3 else if n=4 then b else b.take 1
noncomputable def oH(c:UInt8)(n j T:Nat)(noon:Bool):cS:=
 if c=104 then padded n (if noon=true then(T/3600000%24+11)%12+1 else T/3600000%24)
 else if c=115 then padded n (T/1000%60)++kr j T
 else if c=121 then(if n<=2 then padded 2 ((dateOf (T/86400000)).1%100)else padded 4 (dateOf (T/86400000)).1)
 else if c=100 then(if n<=2 then padded n (dateOf (T/86400000)).2.2 else uG (str (DAYS.getD (weekday (T/86400000)) "")) n)
 else if n<=2 then padded n (dateOf (T/86400000)).2.1 else uG (str (MONTHS.getD ((dateOf (T/86400000)).2.1-1) "")) n
def oJ(pre:cS)(c:UInt8)(n:Nat)(post:cS):Bool:=decide (c=109)&&(decide (n<=2)&&(decide (pre.getLast? =some 104)||decide (post.head? =some 115)))
def AW(T:Nat)(noon:Bool)(pre:cS)(p:Piece)(post:cS):cS:=match p with
 | .text b=>b
 | .half one=>qw one T
 | .passed c n j=>uF c n j T
 | .clock c n j=>if oJ pre c n post=true then padded n (T/60000%60)else oH c n j T noon
 |_=>[]
def jL(T:Nat)(noon:Bool):cS->List Piece->cS
 |_,[]=>[]
 |pre,p::l=>AW T noon pre p (lets l)++jL T noon (pre++lets [p]) l
def EO(l:List Piece)(z:Int):Option cS:=if z<0 then none else if LASTDAY<yR l z.toNat/86400000 then none else some (jL (yR l z.toNat) (l.any λp=>p== .half true||p== .half false) [] l)
def Yk:∀k:Fin 4,∀j:Fin 4,j.val<=k.val->0<j.val->∀r:Fin 1000,r.val<10^k.val->(padded 3 (r.val*10^(3-k.val))).take j.val=padded j.val (r.val/10^(k.val-j.val)):=()
def MJ{k j t:Nat}(hk:k<=3)(hj:j<=k):kr j (t*10^(3-k))=fraction k j (t%10^k):=by
 unfold kr fraction
 by_cases h:j=0
 .rw[ah h,ah h]
 .rw[aa h,aa h];have e:t*10^(3-k)%1000=t%10^k*10^(3-k):=by
   have:(1000:Nat)=10^k*10^(3-k):=by
    rw[<-Nat.pow_add,show k+(3-k)=3 by lia]
   rw[this,Nat.mul_mod_mul_right]
  rw[e];have hr:t%10^k<10^k:=Nat.mod_lt _ (Nat.pow_pos ());have Gg:(10:Nat)^k<=1000:=vX (b:=3) hk;have:=Yk ⟨k,()⟩ ⟨j,by clear e hr Gg;lia⟩ hj (by clear e hr Gg;show 0<j;lia) ⟨t%10^k,bA hr Gg⟩ hr;rw[this]
def div_eq{k t m:Nat}(hk:k<=3):t*10^(3-k)/(m*1000)=t/(m*10^k):=by
 have:m*1000=m*10^k*10^(3-k):=by
  rw[Nat.mul_assoc,<-Nat.pow_add,show k+(3-k)=3 by omega]
 rw[this,Nat.mul_div_mul_right _ _ (Nat.pow_pos ())]
def aQ8{k t:Nat}(hk:k<=3):t*10^(3-k)/1000=t/10^k:=by
 have:=div_eq (m:=1) (t:=t) hk;rw[Nat.one_mul,Nat.one_mul]at this;exact this
noncomputable def yF:Piece->Bool
 | .clock c n k=>decide (k<=3)&&((c==121&&decide (n<=4))||((c==100&&decide (n<=4))||((c==109&&decide (n<=5))||((c==104&&decide (n<=2))||(c==115&&decide (n<=2))))))
 | .passed c _ k=>decide (k<=3)&&(c==104||(c==109||c==115))
 |_=>true
def noon_eq{k t:Nat}(one:Bool)(hk:k<=3):qw one (t*10^(3-k))=(let Rx:=decide (12<=t/(3600*10^k)%24);if one=true then(if Rx=true then [80]else [65])else if Rx=true then str "PM" else str "AM"):=by
 have e:=div_eq (m:=3600) (t:=t) hk;rw[<-e];unfold qw;generalize t*10^(3-k)=T;dsimp only;have:T%86400000<43200000↔¬12<=T/(3600*1000)%24:=by omega
 by_cases h:T%86400000<43200000
 .rw[ah h,ao (this.mp h)];cases one<;>rfl
 .rw[aa h,ak (Decidable.byContradiction λz=>h (this.mpr z))];cases one<;>rfl
def min_eq{pre post:cS}{c:UInt8}:minutes (pre++c::post) pre.length=(decide (pre.getLast? =some 104)||decide (post.head? =some 115)):=by
 unfold minutes;congr 1
 .rcases bW pre with rfl|⟨r,d,rfl⟩
  .rfl
  .rw[bX,List.getLast?_concat];have h1:(r++[d]).length-1=r.length:=by simp
   rw[h1,bw];have h2:(r++([d]++c::post)).getD r.length 0=d:=by simp
   rw[h2,ak (by simp),aY]
   by_cases z:d=104
   .subst z;rfl
   .rw[ao (by simpa using z)];simpa using z
 .have h2:(pre++c::post).getD (pre.length+1) 0=post.getD 0 0:=by
   rw[List.getD_eq_getElem?_getD,bN (),show pre.length+1-pre.length=1 by lia];rfl
  rw[h2];cases post with
  |nil=>rfl
  |cons x r=>
   show(x==115)=_
   by_cases z:x=115
   .subst z;rfl
   .rw[ao (by simpa using z)];simpa using z
def aa2{k t:Nat}{cs pre post:cS}{noon:Bool}{p:Piece}(hk:k<=3)(hp:yF p=true)(hs:∀d∈secs [p],d<=k)(h_:cs=pre++lets [p]++post):clockOut cs noon k t pre.length p=AW (t*10^(3-k)) noon pre p post:=by
 have eh:=div_eq (m:=3600) (t:=t) hk;have em:=div_eq (m:=60) (t:=t) hk;have ed:=div_eq (m:=86400) (t:=t) hk;have es:=aQ8 (t:=t) hk;cases p with
 |text b=>rfl
 |half one=>exact(noon_eq one hk).symm
 |passed c n j=>
  show padded n (t/(if c=104 then 3600*10^k else if c=109 then 60*10^k else 10^k))++(if c=115 then fraction k j (t%(if c=104 then 3600*10^k else if c=109 then 60*10^k else 10^k))else [])=uF c n j _;unfold uF
  by_cases h1:c=104
  .subst h1;rw[ah rfl,aa (),ah rfl,aU,<-eh]
  .by_cases h2:c=109
   .subst h2;rw[aa (),ah rfl,aa (),aa (),ah rfl,aU,<-em]
   .have h3:c=115:=by
     have:(c==104||(c==109||c==115))=true:=(cG.mp hp).2;simpa[h1,h2] using this
    subst h3;have hj:j<=k:=hs j (by show j∈[j];exact aB);rw[aa (),aa (),ah rfl,aa (),aa (),MJ hk hj,es]
 |clock c n j=>
  have hr:decide (j<=3)=true/\((c==121&&decide (n<=4))||((c==100&&decide (n<=4))||((c==109&&decide (n<=5))||((c==104&&decide (n<=2))||(c==115&&decide (n<=2))))))=true:=cG.mp hp;have aP3:cs=pre++c::post:=by rw[h_,bw];rfl
  show(let day:=t/(86400*10^k);let x:=dateOf day;let h:=t/(3600*10^k)%24;if c=121 then(if n<=2 then padded 2 (x.1%100)else padded 4 x.1)else if c=100 then(if n<=2 then padded n x.2.2 else if n=3 then(str (DAYS.getD (weekday day) "")).take 3 else str (DAYS.getD (weekday day) ""))else if c=104 then padded n (if noon=true then(h+11)%12+1 else h)else if c=115 then padded n (t/10^k%60)++fraction k j (t%10^k)else if n<=2/\minutes cs pre.length=true then padded n (t/(60*10^k)%60)else if n<=2 then padded n x.2.1 else(let m:=str (MONTHS.getD (x.2.1-1) "");if n=3 then m.take 3 else if n=4 then m else m.take 1))=(if oJ pre c n post=true then padded n (t*10^(3-k)/60000%60)else oH c n j (t*10^(3-k)) noon);rw[aP3,min_eq,<-eh,<-em,<-ed,<-es];have hm:c≠109->oJ pre c n post=false:=λh=>by
   unfold oJ;rw[ao h];rfl
  dsimp only
  by_cases h1:c=121
  .subst h1;rw[hm ()];unfold oH;simp(decide:=true) only[↓reduceIte]
  .by_cases h2:c=100
   .subst h2;rw[hm ()];unfold oH;simp(decide:=true) only[↓reduceIte]
    by_cases hn:n<=2
    .rw[ah hn,ah hn]
    .rw[aa hn,aa hn];unfold uG;have hn4:n<=4:=by simpa using hr.2
     by_cases h3:n=3
     .rw[ah h3,ah h3]
     .rw[aa h3,aa h3,ah ()]
   .by_cases h3:c=104
    .subst h3;rw[hm ()];unfold oH;simp(decide:=true) only[↓reduceIte]
    .by_cases h4:c=115
     .subst h4;rw[hm ()];unfold oH;have hj:j<=k:=hs j (by show j∈[j];exact aB);simp(decide:=true) only[↓reduceIte];rw[MJ hk hj]
     .have h5:c=109:=by
       have:=hr.2;simp[h1,h2,h3,h4]at this;exact this.1
      subst h5;unfold oJ oH;simp(decide:=true) only[↓reduceIte]
      by_cases hn:n<=2
      .rw[ak hn];cases hm:(decide (pre.getLast? =some 104)||decide (post.head? =some 115))with
       |true=>rw[ah ⟨hn,rfl⟩];rfl
       |false=>rw[aa (show¬(n<=2/\false=true)from λz=>by cases z.2)];rfl
      .rw[aa (show¬(n<=2/\_=true)from λz=>hn z.1),aa hn,aa hn,ao hn];rfl
 |place c=>rfl
 |point=>rfl
 |comma=>rfl
 |percent=>rfl
 |power x=>rfl
 |itself=>rfl
 |general=>rfl
def Zb(p:Piece)(l:List Piece):lets (p::l)=lets [p]++lets l:=by
 show clocks (p::l)=clocks [p]++clocks l;unfold clocks;rw[<-bV];rfl
def ad1(p:Piece):(match p with
  | .clock _ _ _=>1
  | .passed _ _ _=>1
  |_=>0)=(lets [p]).length:=by
 cases p<;>rfl
theorem times_eq{k t:Nat}{noon:Bool}(hk:k<=3):∀(l:List Piece) (pre cs:cS),l.all yF=true->(∀d∈secs l,d<=k)->cs=pre++lets l->clocksOut cs noon k t l pre.length=jL (t*10^(3-k)) noon pre l
 |[],_,_,_,_,_=>rfl
 |p::l,pre,cs,hr,hs,h_=>by
  rw[bu,aE]at hr;have jP:secs (p::l)=secs [p]++secs l:=by
   unfold secs;rw[<-bV];rfl
  rw[Zb,<-bw]at h_;have ih:=times_eq (t:=t) (noon:=noon) hk l (pre++lets [p]) cs hr.2 (λd hd=>hs d (by rw[jP];exact bD _ hd)) h_;show clockOut cs noon k t pre.length p++clocksOut cs noon k t l _=AW _ noon pre p (lets l)++jL _ noon (pre++lets [p]) l;rw[aa2 hk hr.1 (λd hd=>hs d (by rw[jP];exact bE _ hd)) h_,<-ih,aC,<-ad1];congr 1;cases p<;>rfl
def ag9{l:List Piece}(h:l.all yF=true):jk (secs l)<=3:=by
 by_cases e:secs l=[]
 .rw[e];exact aP _
 .have:=E5 e;unfold secs at this;obtain⟨p,hp,q⟩:=List.mem_filterMap.mp this;have hr:=bg.mp h p hp;cases p with
  |clock c n k=>
   dsimp only at q;split at q
   .cases aH q;exact aj (cG.mp hr).1
   .cases q
  |passed c n k=>
   dsimp only at q;split at q
   .cases aH q;exact aj (cG.mp hr).1
   .cases q
  |_=>cases q
def ar5(l:List Piece)(z:Int)(h:l.all yF=true):dayOut l z=EO l z:=by
 unfold dayOut EO
 by_cases hz:z<0
 .rw[ah hz,ah hz]
 rw[aa hz,aa hz];rw[ah0];unfold yR
 by_cases hs:secs l=[]
 .rw[ah hs,ah hs];dsimp only;show(if(LASTDAY+1)*(86400*10^0)<=z.toNat*86400/10^12 then none else some (clocksOut (clocks l) _ 0 (z.toNat*86400/10^12) l 0))=_;have ed:=div_eq (k:=0) (m:=86400) (t:=z.toNat*86400/10^12) ();have ht:=times_eq (k:=0) (t:=z.toNat*86400/10^12) (noon:=l.any λp=>p== .half true||p== .half false) () l [] (clocks l) h (by rw[hs];intro d hd;cases hd) rfl;have e3:z.toNat*86400/10^12*10^(3-0)=z.toNat*86400/10^12*1000:=rfl;rw[e3]at ed ht;rw[show 86400000=86400*1000 from rfl,ed];generalize z.toNat*86400/10^12=t at*;have hL:LASTDAY<t/(86400*10^0)↔(LASTDAY+1)*(86400*10^0)<=t:=by
   show LASTDAY+1<=_↔_;exact Nat.le_div_iff_mul_le ()
  by_cases y:LASTDAY<t/(86400*10^0)
  .rw[ah y,ah (hL.mp y)]
  .rw[aa y,aa (λx=>y (hL.mpr x))];exact cI some ht
 .rw[aa hs,aa hs];have hk:=ag9 h;have hmem:∀d∈secs l,d<=jk (secs l):=λd hd=>EC hd;generalize jk (secs l)=k at*;dsimp only[Option.getD_some];have ed:=div_eq (k:=k) (m:=86400) (t:=rounded (z.toNat*86400*10^k) (10^12)) hk;have ht:=times_eq (k:=k) (t:=rounded (z.toNat*86400*10^k) (10^12)) (noon:=l.any λp=>p== .half true||p== .half false) hk l [] (clocks l) h hmem rfl;rw[show 86400000=86400*1000 from rfl,ed];generalize rounded (z.toNat*86400*10^k) (10^12)=t at*;have hL:LASTDAY<t/(86400*10^k)↔(LASTDAY+1)*(86400*10^k)<=t:=by
   show LASTDAY+1<=_↔_;exact Nat.le_div_iff_mul_le (Nat.mul_pos () (Nat.pow_pos ()))
  by_cases y:LASTDAY<t/(86400*10^k)
  .rw[ah y,ah (hL.mp y)]
  .rw[aa y,aa (λx=>y (hL.mpr x))];exact cI some ht
end SH
namespace NP
open PySem PySem.Spec PyProof.Rows L2
open Sv68 (COLOURS Call Picture Section bracket char1 chosen decimalIn does errorName fitsAt flat generalOf holds isClock isDigits isText number numberOut ofNumbers ofTexts pictureOf)
variable {P:Program}{w:World}{K:b6}{mg:Str->Option Value}{base:Heap}{CN:Addr}{B newId lE:String}{bm:List Value}{f:Addr}{fd:FuncData}
abbrev PR:Program:=PySem.Challenge.pw_numberpictures_s02_show
def top(i:Nat):Stmt:=PR.main.body.getD i (.Pass ⟨0,0,0,0⟩)
structure TX(P:Program)(w:World)(K:b6)(mg:Str->Option Value):Prop where
 fq:mg "len"=none
 aG9:mg "ord"=none
 wA:mg "max"=none
 al3:mg "range"=none
 t_:mg "enumerate"=none
 Qj:mg "sum"=none
 Gb:mg "all"=none
 Qm:mg "any"=none
 BL:mg "abs"=none
 aG8:mg "str"=none
 DH:GI mg "FIRST_YEAR" 1900
 Yv:GI mg "LAST_DAY" 2958464
 Wi:∃a,mg "MONTH_NAMES"=some (.ref a)/\∀H,e_ K H a [.str "January",.str "February",.str "March",.str "April",.str "May",.str "June",.str "July",.str "August",.str "September",.str "October",.str "November",.str "December"]
 Vv:∃a,mg "WEEKDAY_NAMES"=some (.ref a)/\∀H,e_ K H a [.str "Sunday",.str "Monday",.str "Tuesday",.str "Wednesday",.str "Thursday",.str "Friday",.str "Saturday"]
 Vw:∃a,mg "MONTH_LENGTHS"=some (.ref a)/\∀H,e_ K H a [.int 31,.int 28,.int 31,.int 30,.int 31,.int 30,.int 31,.int 31,.int 30,.int 31,.int 30,.int 31]
 Yw:GI mg "FEBRUARY" 2
 Bp:GI mg "BLANK" 32
 MV:GI mg "QUOTE" 34
 ZC:GI mg "PERCENT" 37
 FT:GI mg "PLUS" 43
 ap8:GI mg "COMMA" 44
 Bo:GI mg "MINUS" 45
 yp:GI mg "POINT" 46
 sJ:GI mg "ZERO" 48
 aC8:GI mg "NINE" 57
 XH:GI mg "SEMICOLON" 59
 Yu:GI mg "QUESTION" 63
 ZE:GI mg "LARGE_A" 65
 K8:GI mg "LARGE_E" 69
 ZD:GI mg "LARGE_Z" 90
 UM:GI mg "OPENING_BRACKET" 91
 XJ:GI mg "BACKSLASH" 92
 UO:GI mg "CLOSING_BRACKET" 93
 JI:GI mg "UNDERSCORE" 95
 ZA:GI mg "SMALL_D" 100
 AL:GI mg "SMALL_H" 104
 En:GI mg "SMALL_M" 109
 x9:GI mg "SMALL_S" 115
 Zz:GI mg "SMALL_Y" 121
 U8:GI mg "LAST_CHARACTER" 1114111
 UN:GI mg "FIRST_SURROGATE" 55296
 U7:GI mg "LAST_SURROGATE" 57343
 Vx:∃a,mg "LEAST_BY_SIZE"=some (.ref a)/\∀H,e_ K H a [.int 0,.int 0,.int 128,.int 2048,.int 65536]
 ap7:GI mg "EMPTY" 0
 L7:GI mg "NUMBER" 1
 Oi:GI mg "TEXT" 2
 ap3:GI mg "TRUTH" 3
 ap6:GI mg "ERROR" 4
 Kq:GI mg "DECIMALS" 12
 wD:GI mg "ONE" 1000000000000
 JW:GI mg "TOO_LARGE" 1000000000000000000000000000000000000
 VV:GI mg "LONGEST_TEXT" 4096
 Js:∃a,mg "ERROR_NAMES"=some (.ref a)/\∀H,e_ K H a [.str "#DIV/0!",.str "#VALUE!",.str "#REF!",.str "#NAME?",.str "#NUM!",.str "#N/A",.str "#RING!",.str "#ROOM!"]
 Wk:∃a,mg "COMPARISONS"=some (.ref a)/\∀H,e_ K H a [.str "<=",.str ">=",.str "<>",.str "<",.str ">",.str "="]
 Wh:GI mg "MOST_DIGITS" 24
 Jf:GI mg "MOST_DECIMALS" 12
 ap4:∃a,mg "SIGNS"=some (.ref a)/\kX P w K a [(.inl 48,.str "place"),(.inl 35,.str "place"),(.inl 63,.str "place"),(.inl 46,.str "point"),(.inl 44,.str "comma"),(.inl 37,.str "percent"),(.inl 64,.str "at")]
 ap2:∃a,mg "WORDS"=some (.ref a)/\kX P w K a [(.inr "general",.str "general"),(.inr "am/pm",.str "noon"),(.inr "a/p",.str "noon")]
 Ji:∃a,mg "LONGEST_ROWS"=some (.ref a)/\kX P w K a [(.inl 121,.int 4),(.inl 109,.int 5),(.inl 100,.int 4),(.inl 104,.int 2),(.inl 115,.int 2)]
 Ub:GI mg "LONGEST_PASSED_TIME" 9
 T4:GI mg "MOST_DECIMALS_OF_SECONDS" 3
 ap5:GS mg "PLAIN" " !$&'()+-/:<=>^{}~"
 ZF:∃a,mg "COLOURS"=some (.ref a)/\∀H,e_ K H a [.str "black",.str "blue",.str "cyan",.str "green",.str "magenta",.str "red",.str "white",.str "yellow"]
 WZ:GI mg "MOST_BYTES" 255
 Dk:GI mg "MOST_SECTIONS" 4
 Jr:GI mg "TEXTS_ALONE" 0
 L8:GI mg "DIGITS" 1
 Jb:GI mg "DAYS_AND_TIMES" 2
 As:GI mg "WITH_TEXT" 3
 Yx:GI mg "AS_IT_IS" 4
 Uc:∃a,mg "COLOUR_OR_CONDITION"=some (.ref a)/\∀H,e_ K H a [.str "colour",.str "condition"]
 Wj:∃a,mg "FREE_PIECES"=some (.ref a)/\∀H,e_ K H a [.str "text",.str "colour",.str "condition"]
 W0:∃a,mg "DAY_PIECES"=some (.ref a)/\∀H,e_ K H a [.str "part",.str "noon",.str "passed"]
 VW:∃a,mg "DIGIT_PIECES"=some (.ref a)/\∀H,e_ K H a [.str "place",.str "point",.str "comma",.str "percent",.str "exponent"]
 Ja:GI mg "SECONDS_OF_DAY" 86400
 Ai:GI mg "THOUSANDTHS" 1000
 JX:GI mg "OF_MINUTE" 60000
 K7:GI mg "OF_HOUR" 3600000
 Wg:GI mg "OF_HALF_DAY" 43200000
 ED:GI mg "OF_DAY" 86400000
 MW:∃a,mg "PARTS"=some (.ref a)/\∀H,e_ K H a [.str "part",.str "passed"]
 XI:GI mg "LONG_NOON" 5
 xZ:GI mg "NO_COLOUR" 0
 L6:GI mg "SECOND" 1
 U6:GI mg "WRONG_ARGUMENT" (-1)
 WY:GI mg "NO_PICTURE" (-3)
 Wl:GI mg "CANNOT_SHOW" (-4)
noncomputable def gm(n:Int):Int:=if n<128 then 1 else if n<192 then 0 else if n<224 then 2 else if n<240 then 3 else if n<248 then 4 else 0
def kM:Int->List Int->Option Int
 |n,[]=>some n
 |n,c::r=>if Builtin.bitAnd c 192=128 then kM (n*64+c%64) r else none
noncomputable def qp(k:Nat)(n:Int):Bool:=decide ([0,0,128,2048,65536].getD k 0<=n)&&(decide (n<=1114111)&& !(decide (55296<=n)&&decide (n<=57343)))
def Bm(k:Nat):Option Int->Bool
 |some n=>qp k n
 |none=>false
def mD(ns:List Int):Bool:=match ns with
 |[]=>false
 |c::r=>Bm (r.length+1) (kM (if r.length=0 then c else Builtin.bitAnd c (127/2^(r.length+1))) r)
def vt(c:Int)(r:List Int):mD (c::r)=Bm (r.length+1) (kM (if r.length=0 then c else Builtin.bitAnd c (127/2^(r.length+1))) r):=rfl
def W2(c m:Int)(h:0<=c)(hm:0<=m):0<=Builtin.bitAnd c m/\Builtin.bitAnd c m<=c:=by
 rw[bitAnd_pp h hm];have:=Nat.and_le_left (n:=c.toNat) (m:=m.toNat);lia
section
inductive yh(vs:List V)(H:Hp)(Q:VK)(z3:XK):Prop|m(n)(_:vs=[.int n])(_:Q (.int (gm n)) H)
inductive Lk(K:b6)(vs:List V)(H:Hp)(Q:VK)(z3:XK):Prop|m(a ns)(_:vs=[.ref a])(_:cU K H a (ns.map V.int))(_:1<=ns.length)(_:ns.length<=4)(_:(∀n∈ns,0<=n/\n<=255))(_:∀H',cR H H'->Q (.bl (mD ns)) H')
abbrev NO:Stmt:=top 51
abbrev Ba:Stmt:=top 52
def ah6:dP ["first"] ["first"] (c9 NO):=dW
def ab8(F:dM K "character_size" "character_size" NO f fd):dJ P w K mg base cY 1 f fd ["first"] yh:=by
 refine F.oK ah6 λc8 A outer s H vs Q E hr h=>?_;obtain⟨n,rfl,k⟩:=h;refine⟨_,(cW (dO (dj jg (pv 0) cZ) (cX (dh cZ)) dX)
  (cW (dO (dj jg (pv 0) cZ) (cX (dh cZ)) dX)
  (cW (dO (dj jg (pv 0) cZ) (cX (dh cZ)) dX)
  (cW (dO (dj jg (pv 0) cZ) (cX (dh cZ)) dX)
  (cX (dh (gD (dj jg (pv 0) cZ) cZ cZ))))))),?_⟩
 unfold gm at k
 iterate 4
  refine⟨_,_,rfl,rfl,_,rfl,dw (λq=>?_) (λq=>?_)⟩
  .rw[ah (aj q)]at k;exact k
  rw[aa λz=>q (ak z)]at k
 refine⟨_,_,rfl,rfl,_,rfl,dw (λq=>?_) (λq=>?_)⟩
 .rw[ah (aj q)]at k;exact k
 .rw[aa λz=>q (ak z)]at k;exact k
def Lq:dP ["codes","size","number","code","is_surrogate"] ["codes"] (c9 Ba):=dW
def YY(T:TX P w K mg)(F:dM K "is_character" "is_character" Ba f fd):dJ P w K mg base cY 1 f fd ["codes"] (Lk K):=by
 refine F.oK Lq λc8 A outer s H vs Q E hr h=>?_;obtain⟨a,ns,rfl,hS,xj,hl4,hb,k⟩:=h;obtain⟨aL,gL,sL⟩:=T.Vx;have nd:=Lq.nd;obtain⟨c,r,rfl⟩:∃c r,ns=c::r:=match ns,xj with |c::r,_=>⟨c,r,rfl⟩
 have k7:r.length<=3:=by simpa using hl4
 have hbr:∀n∈r,0<=n/\n<=255:=λn hn=>hb n (aA _ hn);obtain⟨tR,hR,qR⟩:∃tR,gb (gJ cY P w K mg base ["codes","size","number","code","is_surrogate"] "is_character" (c9 Ba) f c8 A outer s H E).jV ((gH Ba).drop 2) tR/\
   ∀n0:Int,0<=n0->n0<256->(∀H',cR H H'->Q (.bl (Bm (r.length+1) (kM n0 r))) H')->
    tR {nx:=λ_ H'=>Q .dI H',rt:=Q} [some (.ref a),some (.int ((c::r).map V.int).length),some (.int n0),none,none] H:=by
  refine⟨_,(cW (kN cA rfl (gR (fP fX (pv 0) (eY cZ) gQ)) (fF (i:=3) nd) (cW (dO (dj wu (dm N1 (pv 3) cZ) cZ) (cX (dh mG)) dX)
   (cX (dN (i:=2) nd (dm fL (dm ki (pv 2) cZ) (dm kO (pv 3) cZ))))))
   (cW (dN (i:=4) nd (vH iJ iJ (dG T.UN) (pv 2) (dG T.U7)))
   (cX (dh (mC (vH iJ iJ (fM yw (i7 gL) (pv 1) (λ_ _=>rfl)) (pv 2) (dG T.U8)) (kh (NW (pv 4)))))))),λn0 h0 h1 kk=>?_⟩
  refine⟨1,rfl,a,_,rfl,hS,λp hp=>?_⟩;have Ca:fH ((c::r).map V.int) (some 1) none=r.map V.int:=by
   unfold fH;have e1:HT.e9 ((c::r).map V.int).length 0 (some 1)=1:=by
    have:=HT.qc ((c::r).map V.int).length 0 1;simp at this;simpa using this
   rw[e1];show((V.int c::r.map V.int).drop 1).take _=_;rw[List.drop_one,List.tail_cons];exact bq (by simp[HT.e9])
  rw[Ca];have sm:cR H (upd H p (.lst (r.map V.int))):=λb o e=>by rw[eK (fE e hp)];exact e
  refine⟨p,rfl,⟨_,cU.of cV⟩,vM (K:=K) (a:=p) (xs:=r.map V.int) (λi σ H'=>∃(n:Int) (v:Option V),σ=[some (.ref a),some (.int ((c::r).map V.int).length),some (.int n),v,none]/\H'=upd H p (.lst (r.map V.int))/\0<=n/\n<256*64^i/\kM n0 r=kM n (r.drop i))
   ⟨n0,none,rfl,rfl,h0,by simpa using h1,rfl⟩ (λi σ H' _ ⟨_,_,_,e,_⟩=>by subst e;exact cU.of cV) ?_ ?_⟩
  .rintro i y σ H' hi ⟨n,v,rfl,rfl,zJ,zI,hc⟩;obtain⟨z,hz,rfl⟩:∃z,r[i]? =some z/\y=V.int z:=by
    rw[aR]at hi;obtain⟨z,hz,e⟩:=aG.mp hi;exact⟨z,hz,e.symm⟩
   have gv:i<r.length:=(aD.mp hz).1;have Qs:r.drop i=z::r.drop (i+1):=by
    rw[List.drop_eq_getElem_cons gv];congr 1;exact(aD.mp hz).2
   have p64:(64:Int)^i<=4096:=by
    have:i<=2:=()
    match i,this with
    |0,_=>decide
    |1,_=>decide
    |2,_=>decide
   refine⟨_,_,rfl,rfl,rfl,_,rfl,dw (λq=>?_) (λq=>?_)⟩
   .
    have q':¬Builtin.bitAnd z 192=128:=by simpa using q
    have e:kM n0 r=none:=by rw[hc,Qs,kM,aa q']
    have:=kk (upd H p (.lst (r.map V.int))) sm;rw[e]at this;exact this
   .have q':Builtin.bitAnd z 192=128:=by simpa using q
    have zK:0<=z%64:=Int.emod_nonneg _ ();have pO:z%64<64:=Int.emod_lt_of_pos _ ();refine⟨_,_,rfl,rfl,.inl ⟨(),?_⟩,_,_,rfl,rfl,(by show(0:Int)<64;decide),_,_,rfl,rfl,_,_,rfl,rfl,(),?_,?_⟩
    .show n<2^64;have:(2:Int)^64=18446744073709551616:=();lia
    .rw[Int.pow_succ];lia
    .rw[hc,Qs,kM,ah q']
  .rintro σ H' ⟨n,v,rfl,rfl,zJ,zI,hc⟩;have ia:kM n0 r=some n:=by
    rw[hc,az,List.drop_length,kM]
   have pG:=kk (upd H p (.lst (r.map V.int))) sm;rw[ia]at pG;have pG:Q (.bl (qp (r.length+1) n)) (upd H p (.lst (r.map V.int))):=pG;obtain⟨lv,hlv,S0⟩:∃lv,([0,0,128,2048,65536]:List Int).getD (r.length+1) 0=lv/\lY [V.int 0,V.int 0,V.int 128,V.int 2048,V.int 65536] (((c::r).map V.int).length:Int)=some (V.int lv):=by
    refine⟨_,rfl,at_of (j:=r.length+1) (by simp) ?_⟩;generalize r.length=m at k7 ⊢
    match m,k7 with
    |0,_=>rfl
    |1,_=>rfl
    |2,_=>rfl
    |3,_=>rfl
   unfold qp at pG;rw[hlv]at pG;refine⟨_,_,rfl,rfl,_,rfl,dw (λq1=>?_) (λq1=>?_)⟩
   .refine⟨_,_,rfl,rfl,?_⟩;refine⟨aL,_,_,_,rfl,rfl,sL _,S0,_,_,rfl,rfl,_,rfl,dw (λq2=>?_) (λq2=>?_)⟩
    .refine⟨_,_,rfl,rfl,_,rfl,dw (λq3=>?_) (λq3=>?_)⟩
     .refine⟨_,rfl,?_⟩;simp at q1 q2 q3;simpa[q1,q2,q3] using pG
     .simp at q1 q2 q3;have:¬n<=1114111:=();simpa[q1,q2,this] using pG
    .refine⟨_,rfl,dB ?_⟩;simp at q1 q2;have:¬lv<=n:=();simpa[this] using pG
   .refine⟨aL,_,_,_,rfl,rfl,sL _,S0,_,_,rfl,rfl,_,rfl,dw (λq2=>?_) (λq2=>?_)⟩
    .refine⟨_,_,rfl,rfl,_,rfl,dw (λq3=>?_) (λq3=>?_)⟩
     .refine⟨_,rfl,?_⟩;simp at q1 q2 q3;have:¬55296<=n:=();simpa[this,q2,q3] using pG
     .simp at q1 q2 q3;have:¬n<=1114111:=();simpa[q2,this] using pG
    .refine⟨_,rfl,dB ?_⟩;simp at q1 q2;have:¬lv<=n:=();simpa[this] using pG
 refine⟨_,cW (dN (i:=1) nd (eN fD rfl T.fq PySem.boot_len (cT (pv 0))))
  (cW (dN (i:=2) nd (gD (dj dU (pv 1) cZ) (fM fW (pv 0) cZ (λ_ _=>rfl)) (dm N1 (fM fW (pv 0) cZ (λ_ _=>rfl)) (dm av0 cZ (pv 1))))) hR),?_⟩
 have SY:=hb c (aB);refine⟨a,_,rfl,.inl hS,rfl,_,rfl,dw (λq=>?_) (λq=>?_)⟩
 .have HD:r.length=0:=by
   have q1:=aj q;injection q1 with q1
   simp at q1;lia
  refine⟨a,_,_,_,rfl,rfl,hS,eV (j:=0) rfl,qR c SY.1 () λH' sm=>?_⟩;have:=k H' sm;rw[vt,ah HD]at this;exact this
 .have HD:¬r.length=0:=λz=>q (ak (by simp[z]));have aP4:=W2 c (127/2^(r.length+1)) SY.1 (Int.ediv_nonneg () (Int.le_of_lt (Int.pow_pos ())));refine⟨a,_,_,_,rfl,rfl,hS,eV (j:=0) rfl,_,_,rfl,rfl,?_,_,_,rfl,rfl,?_⟩
  .show(0:Int)<=(((c::r).map V.int).length:Nat);lia
  .have e:(127:Int)/2^((((c::r).map V.int).length:Nat):Int).toNat=127/2^(r.length+1):=by simp
   rw[e];refine qR _ aP4.1 () λH' sm=>?_;have:=k H' sm;rw[vt,aa HD]at this;exact this
end
open PySem
abbrev oct(l:List Int):List UInt8:=Sv68Neutral.octets l
def jZ(l:List Int):Prop:=∀n∈l,0<=n/\n<=255
def um(c:Int)(r:List Int):oct (c::r)=UInt8.ofNat c.toNat::oct r:=rfl
def GU{c:Int}(h:0<=c/\c<=255):(UInt8.ofNat c.toNat).toNat=c.toNat:=by
 rw[UInt8.toNat_ofNat'];lia
def Ol{b:Int}(h:0<=b/\b<=255):(Builtin.bitAnd b 192=128)↔(128<=b/\b<=191):=by
 have key:∀k:Fin 256,(k.val &&& 192=128)↔(128<=k.val/\k.val<=191):=();have e:Builtin.bitAnd b 192=((b.toNat &&& 192:Nat):Int):=PyProof.Rows.bitAnd_pp h.1 ();have:=key ⟨b.toNat,()⟩;simp only at this;rw[e];lia
def jI(c:UInt8)(lo hi:Nat):Bool:=decide (lo<=c.toNat)&&decide (c.toNat<=hi)
def x6(a:UInt8)(r:List UInt8):Wbk.utf8 (a::r)=
  (if a.toNat<0x80 then Wbk.utf8 r
  else if 0xC2<=a.toNat/\a.toNat<0xE0 then(match r with
   |b::q=>jI b 0x80 0xBF&&Wbk.utf8 q
   |_=>false)
  else if 0xE0<=a.toNat/\a.toNat<0xF0 then(match r with
   |b::c::q=>jI b (if a.toNat=0xE0 then 0xA0 else 0x80) (if a.toNat=0xED then 0x9F else 0xBF)&&(jI c 0x80 0xBF&&Wbk.utf8 q)
   |_=>false)
  else if 0xF0<=a.toNat/\a.toNat<0xF5 then(match r with
   |b::c::d::q=>jI b (if a.toNat=0xF0 then 0x90 else 0x80) (if a.toNat=0xF4 then 0x8F else 0xBF)&&(jI c 0x80 0xBF&&(jI d 0x80 0xBF&&Wbk.utf8 q))
   |_=>false)
  else false):=by
 rw[Wbk.utf8.eq_def];rfl
def ao7{c:Int}(h:c<128):gm c=1:=by unfold gm;rw[ah h]
def ao8{c:Int}(h:128<=c)(h2:c<192):gm c=0:=by unfold gm;rw[aa (),ah h2]
def ao6{c:Int}(h:192<=c)(h2:c<224):gm c=2:=by unfold gm;rw[aa (),aa (),ah h2]
def ao5{c:Int}(h:224<=c)(h2:c<240):gm c=3:=by unfold gm;rw[aa (),aa (),aa (),ah h2]
def ao4{c:Int}(h:240<=c)(h2:c<248):gm c=4:=by unfold gm;rw[aa (),aa (),aa (),aa (),ah h2]
def ao3{c:Int}(h:248<=c):gm c=0:=by unfold gm;rw[aa (),aa (),aa (),aa (),aa ()]
def vI{n c:Int}{r:List Int}(h:0<=c/\c<=255):kM n (c::r)=if 128<=c/\c<=191 then kM (n*64+(c-128)) r else none:=by
 rw[kM]
 by_cases q:128<=c/\c<=191
 .rw[ah q,ah ((Ol h).mpr q),show c%64=c-128 by lia]
 .rw[aa q,aa λz=>q ((Ol h).mp z)]
def xF{l b u:Int}(h:¬(l<=b/\b<=u)):(decide (l<=b)&&decide (b<=u))=false:=(Bool.decide_and _ _).symm.trans (ao h)
def CV{l b u:Int}(h:l<=b/\b<=u):(decide (l<=b)&&decide (b<=u))=true:=(Bool.decide_and _ _).symm.trans (ak h)
def CZ{k:Nat}{L N lo b hi:Int}(e:([0,0,128,2048,65536].getD k 0:Int)=L)(A:L<=N↔lo<=b)(B:N<=1114111)(S:55296<=N/\N<=57343↔hi<b):qp k N=(decide (lo<=b)&&decide (b<=hi)):=by
 unfold qp;rw[e,au.mpr A,ak B,aY,(Bool.decide_and _ _).symm.trans (au.mpr S),<-decide_not,au.mpr Int.not_lt]
def ch2{c b:Int}(h1:192<=c)(h2:c<224)(h0:0<=b/\b<=255):mD [c,b]=(decide (194<=c)&&(decide (128<=b)&&decide (b<=191))):=by
 have e1:Builtin.bitAnd c (127/2^([b].length+1))=c-192:=by
  rw[show(127:Int)/2^([b].length+1)=31 by simp];exact(PyProof.Rows.bitAnd_m5 c).trans (show c%32=c-192 by lia)
 rw[vt,aa (by simp),e1,vI h0]
 by_cases z:128<=b/\b<=191
 .rw[ah z,CV z,Bool.and_true];exact(CZ (L:=128) (lo:=194) (b:=c) (hi:=300) rfl () () ()).trans (by rw[ak (show c<=300 by lia),Bool.and_true])
 .rw[aa z,xF z,Bool.and_false];rfl
def ch3{c b d:Int}(h1:224<=c)(h2:c<240)(h0:0<=b/\b<=255)(hd:0<=d/\d<=255):mD [c,b,d]=((decide (((if c.toNat=0xE0 then 0xA0 else 0x80:Nat):Int)<=b)&&decide (b<=((if c.toNat=0xED then 0x9F else 0xBF:Nat):Int)))&&(decide (128<=d)&&decide (d<=191))):=by
 have e1:Builtin.bitAnd c (127/2^([b,d].length+1))=c-224:=by
  rw[show(127:Int)/2^([b,d].length+1)=15 by simp];exact(PyProof.Rows.bitAnd_m4 c).trans (show c%16=c-224 by lia)
 rw[vt,aa (by simp),e1,vI h0,vI hd]
 by_cases y:128<=d/\d<=191
 .rw[CV y,Bool.and_true,ah y]
  by_cases z:128<=b/\b<=191
  .rw[ah z]
   by_cases k:c.toNat=0xE0
   .rw[ah k,aa ()];exact CZ (L:=2048) rfl () () ()
   .rw[aa k]
    by_cases j:c.toNat=0xED
    .rw[ah j];exact CZ (L:=2048) rfl () () ()
    .rw[aa j];exact CZ (L:=2048) rfl () () ()
  .rw[aa z,xF λq=>z ⟨Int.le_trans (by split<;>decide) q.1,Int.le_trans q.2 (by split<;>decide)⟩];rfl
 .rw[aa y,ite_self,xF y,Bool.and_false];rfl
def ch4{c b d g:Int}(h1:240<=c)(h2:c<248)(h0:0<=b/\b<=255)(hd:0<=d/\d<=255)(hg:0<=g/\g<=255):mD [c,b,d,g]=(decide (c<245)&&((decide (((if c.toNat=0xF0 then 0x90 else 0x80:Nat):Int)<=b)&&decide (b<=((if c.toNat=0xF4 then 0x8F else 0xBF:Nat):Int)))&&((decide (128<=d)&&decide (d<=191))&&(decide (128<=g)&&decide (g<=191))))):=by
 have e1:Builtin.bitAnd c (127/2^([b,d,g].length+1))=c-240:=by
  rw[show(127:Int)/2^([b,d,g].length+1)=7 by simp];exact(PyProof.Rows.bitAnd_m3 c).trans (show c%8=c-240 by lia)
 rw[vt,aa (by simp),e1,vI h0,vI hd,vI hg]
 by_cases x:128<=g/\g<=191
 .rw[CV x,Bool.and_true,ah x]
  by_cases y:128<=d/\d<=191
  .rw[CV y,Bool.and_true,ah y]
   by_cases z:128<=b/\b<=191
   .rw[ah z];show qp 4 _=_;generalize hN:(((c-240)*64+(b-128))*64+(d-128))*64+(g-128)=N;have u:∀lo hi:Int,(lo<=b->65536<=N)->(65536<=N->lo<=b/\(N<=1114111↔b<=hi))->qp 4 N=(decide (lo<=b)&&decide (b<=hi)):=by
     intro lo hi p q;unfold qp
     by_cases r:lo<=b
     .have n:=p r;rw[ak r,au.mpr (q n).2,ak (show([0,0,128,2048,65536].getD 4 0:Int)<=N from n),ao (show¬N<=57343 by lia),Bool.and_false];exact cI (true&&·) (Bool.and_true _)
     .rw[ao r,ao (show¬([0,0,128,2048,65536].getD 4 0:Int)<=N from λn=>r (q n).1)];rfl
    by_cases v:c<245
    .rw[ak v,aY]
     by_cases k:c.toNat=0xF0
     .rw[ah k,aa ()];exact u _ _ () ()
     .rw[aa k]
      by_cases j:c.toNat=0xF4
      .rw[ah j];exact u _ _ () ()
      .rw[aa j];exact u _ _ () ()
    .rw[ao v,aZ];unfold qp;rw[ao (show¬N<=1114111 by lia),aZ,Bool.and_false]
   .rw[aa z,xF λq=>z ⟨Int.le_trans (by split<;>decide) q.1,Int.le_trans q.2 (by split<;>decide)⟩,Bool.and_false];rfl
  .rw[aa y,ite_self,xF y,Bool.and_false,Bool.and_false];rfl
 .rw[aa x,ite_self,ite_self,xF x,Bool.and_false,Bool.and_false,Bool.and_false];rfl
def wB{b:Int}(h:0<=b/\b<=255)(lo hi:Nat):jI (UInt8.ofNat b.toNat) lo hi=(decide ((lo:Int)<=b)&&decide (b<=hi)):=by
 unfold jI;rw[GU h];congr 1
 .exact au.mpr (by omega)
 .exact au.mpr (by omega)
def Kv{c:Int}{r:List Int}(hb:jZ (c::r)):
  (gm c=0\/(r.length:Int)+1<gm c->Wbk.utf8 (oct (c::r))=false)/\
  (1<=gm c->gm c<=(r.length:Int)+1->Wbk.utf8 (oct (c::r))=(mD ((c::r).take (gm c).toNat)&&Wbk.utf8 (oct ((c::r).drop (gm c).toNat)))):=by
 have hc:=hb c aB;have hr:jZ r:=λn hn=>hb n (aA _ hn);have U:=x6 (UInt8.ofNat c.toNat) (oct r);rw[GU hc]at U;rw[um]
 by_cases h1:c<128
 .rw[ao7 h1];rw[ah (by omega)]at U;refine⟨by omega,λ_ _=>?_⟩;have:mD [c]=true:=by
   rw[vt];simp[kM,Bm,qp];omega
  show _=(mD [c]&&_);rw[this,U];rfl
 rw[aa (by omega)]at U
 by_cases h2:c<192
 .rw[ao8 (by omega) h2];rw[aa (by omega),aa (by omega),aa (by omega)]at U;exact⟨λ_=>U,by omega⟩
 by_cases h3:c<224
 .rw[ao6 (by omega) h3]
  match r,hr,hb,U with
  |[],_,_,U=>
   refine⟨λ_=>?_,λ_ h=>cJ h (by simp)⟩;rw[U]
   by_cases q:0xC2<=c.toNat/\c.toNat<0xE0
   .rw[ah q];rfl
   .rw[aa q,aa (by omega),aa (by omega)]
  |b::q,hr,_,U=>
   have h0:=hr b aB;refine⟨λh=>cJ h (by simp;omega),λ_ _=>?_⟩;show _=(mD [c,b]&&Wbk.utf8 (oct q));have e:=ch2 (show 192<=c by omega) h3 h0;rw[e,U,um]
   by_cases z:0xC2<=c.toNat/\c.toNat<0xE0
   .rw[ah z];show(jI _ _ _&&_)=_;rw[wB h0,ak (show 194<=c by omega)];rfl
   .rw[aa z,aa (by omega),aa (by omega),ao (show¬194<=c by omega)];rfl
 by_cases h4:c<240
 .rw[ao5 (by omega) h4];rw[aa (by omega),ah (by omega)]at U
  match r,hr,hb,U with
  |[],_,_,U=>exact⟨λ_=>U,λ_ h=>cJ h (by simp)⟩
  |[_],_,_,U=>exact⟨λ_=>U,λ_ h=>cJ h (by simp)⟩
  |b::d::q,hr,_,U=>
   have h0:=hr b (by simp);have hd:=hr d (by simp);refine⟨λh=>cJ h (by simp;omega),λ_ _=>?_⟩;show _=(mD [c,b,d]&&Wbk.utf8 (oct q));have e:=ch3 (show 224<=c by omega) h4 h0 hd;rw[e,U,um,um];show(jI _ _ _&&(jI _ _ _&&_))=_;rw[wB h0,wB hd,<-Bool.and_assoc];rfl
 by_cases h5:c<248
 .rw[ao4 (by omega) h5];rw[aa (by omega),aa (by omega)]at U
  match r,hr,hb,U with
  |[],_,_,U=>exact⟨λ_=>by rw[U];split<;>rfl,λ_ h=>cJ h (by simp)⟩
  |[_],_,_,U=>exact⟨λ_=>by rw[U];split<;>rfl,λ_ h=>cJ h (by simp)⟩
  |[_,_],_,_,U=>exact⟨λ_=>by rw[U];split<;>rfl,λ_ h=>cJ h (by simp)⟩
  |b::d::g::q,hr,_,U=>
   have h0:=hr b (by simp);have hd:=hr d (by simp);have hg:=hr g (by simp);refine⟨λh=>cJ h (by simp;omega),λ_ _=>?_⟩;show _=(mD [c,b,d,g]&&Wbk.utf8 (oct q));have e:=ch4 (show 240<=c by omega) h5 h0 hd hg;rw[e,U,um,um,um]
   by_cases z:c<245
   .rw[ah (by omega),ak z];show(jI _ _ _&&(jI _ _ _&&(jI _ _ _&&_)))=_;rw[wB h0,wB hd,wB hg];simp only[Bool.and_assoc,aY];rfl
   .rw[aa (by omega),ao z];rfl
 .rw[ao3 (by omega)];rw[aa (by omega),aa (by omega),aa (by omega)]at U;exact⟨λ_=>U,by omega⟩
def ae5{xs:List V}{i j:Nat}(hij:i<=j)(hj:j<=xs.length):fH xs (some (i:Int)) (some (j:Int))=(xs.drop i).take (j-i):=by
 unfold fH;rw[HT.qc,HT.qc,Nat.min_eq_left (aV hij hj),Nat.min_eq_left hj]
theorem jZ.drop{l:List Int}(h:jZ l)(i:Nat):jZ (l.drop i):=λn hn=>h n (List.mem_of_mem_drop hn)
theorem jZ.take{l:List Int}(h:jZ l)(i:Nat):jZ (l.take i):=λn hn=>h n (List.mem_of_mem_take hn)
def LY(c:Int):0<=gm c/\gm c<=4:=by
 unfold gm
 repeat' split
 all_goals lia
section
inductive Fj(K:b6)(vs:List V)(H:Hp)(Q:VK)(z3:XK):Prop|m(a ns)(_:vs=[.ref a])(_:cU K H a (ns.map V.int))(_:jZ ns)(_:∀H',cR H H'->Q (.bl (Wbk.utf8 (oct ns))) H')
abbrev PU:Stmt:=top 53
def Nt:dP ["codes","at","size"] ["codes"] (c9 PU):=dW
def ai8(T:TX P w K mg)(aR5:Own P w K mg base cY 1 "character_size" ["first"] yh)(aR4:Own P w K mg base cY 1 "is_character" ["codes"] (Lk K))
  (F:dM K "is_well_made" "is_well_made" PU f fd):dJ P w K mg base cY 2 f fd ["codes"] (Fj K):=by
 refine F.oK Nt λc8 A outer s H vs Q E hr h=>?_;obtain⟨a,ns,rfl,hS,hb,k⟩:=h;have nd:=Nt.nd;refine⟨_,(cW (dN (i:=1) nd cZ)
  (cW (r_ cA (dj jg (pv 1) (eN fD rfl T.fq PySem.boot_len (cT (pv 0)))) (cW (dN (i:=2) nd (dF aR5 hr (cT (fM fW (pv 0) (pv 1) (λ_ _=>rfl)))))
  (cW (dO (PW.pt (mF (dj dU (pv 2) cZ) (mF (dj iV (dm fL (pv 1) (pv 2)) (eN fD rfl T.fq PySem.boot_len (cT (pv 0)))) (oE (uB (iH (dF aR4 hr (cT (fP fX (pv 0) (eY (pv 1)) (eY (dm fL (pv 1) (pv 2)))))))))))) (cX (dh mG)) dX)
  (cX (mz (i:=1) nd rfl (Or.inl rfl) (pv 2) qm)))))
  (cX (dh mG)))),?_⟩
 refine ZS (λσ H'=>∃(j:Nat) (v:Option V),σ=[some (.ref a),some (.int j),v]/\cR H H'/\j<=ns.length/\Wbk.utf8 (oct ns)=Wbk.utf8 (oct (ns.drop j)))
  (λσ _=>match σ with |[_,some (.int j),_]=>ns.length-j.toNat|_=>0) ⟨0,none,rfl,λ_ _ z=>z,aP _,rfl⟩ ?_ ?_
 .rintro σ H' ⟨j,v,rfl,sm,hj,hu⟩;have CC:=sm.seq hS;refine⟨a,_,rfl,.inl CC,_,_,rfl,rfl,_,rfl,dw (λq=>?_) (λq=>?_)⟩
  .have eF:j<ns.length:=by
    have:=aj q;rw[az]at this;lia
   obtain⟨c,hc⟩:∃c,ns[j]? =some c:=⟨_,br eF⟩;have ed:ns.drop j=c::ns.drop (j+1):=by
    rw[List.drop_eq_getElem_cons eF];congr 1;exact(aD.mp hc).2
   have Ia:=hb.drop j;rw[ed]at Ia hu;obtain⟨U0,U1⟩:=Kv Ia;have hl:((ns.drop (j+1)).length:Int)+1=(ns.length:Int)-j:=by
    rw[aQ];lia
   rw[hl]at U0 U1;have cl:=LY c;refine⟨a,_,_,_,rfl,rfl,CC,eV (j:=j) (v:=V.int c) (by rw[aR,hc];rfl),c,rfl,?_⟩;refine⟨rfl,_,rfl,dw (λq0=>?_) (λq0=>?_)⟩
   .have e0:gm c=0:=by
     have:=aj q0;injection this
    refine dZ ?_;have kk:=k H' sm;rw[hu,U0 (.inl e0)]at kk;exact kk
   .have e0:¬gm c=0:=λz=>q0 (by rw[z];rfl);refine⟨_,_,rfl,rfl,a,_,rfl,.inl CC,_,_,rfl,rfl,_,rfl,dw (λq1=>?_) (λq1=>?_)⟩
    .have e1:(ns.length:Int)<j+gm c:=by
      have:=aj q1;rw[az]at this;exact this
     refine dZ ?_;have kk:=k H' sm;rw[hu,U0 (.inr ())]at kk;exact kk
    .have e1:(j:Int)+gm c<=ns.length:=by
      have z:¬_:=λz=>q1 (ak z);rw[az]at z;lia
     have U2:=U1 () ();obtain⟨m,hm⟩:∃m:Nat,gm c=(m:Int):=⟨(gm c).toNat,()⟩;rw[hm]at e1 e0 U2 cl ⊢;rw[bZ]at U2;refine⟨(j:Int),rfl,_,_,rfl,rfl,(j:Int)+m,rfl,a,_,rfl,CC,λp hp=>?_⟩;have ec:fH (ns.map V.int) (some (j:Int)) (some ((j:Int)+m))=((c::ns.drop (j+1)).take m).map V.int:=by
      have:=ae5 (xs:=ns.map V.int) (i:=j) (j:=j+m) () (by rw[az];lia);rw[show((j+m:Nat):Int)=(j:Int)+m by lia]at this;rw[this,<-ed,bI,bH,Nat.add_sub_cancel_left]
     rw[ec];have gV:cR H' (upd H' p (.lst (((c::ns.drop (j+1)).take m).map V.int))):=λb o e=>by rw[eK (fE e hp)];exact e
     have lt:((c::ns.drop (j+1)).take m).length=m:=by
      rw[aW,aK];have:(ns.drop (j+1)).length+1=ns.length-j:=by rw[aQ];lia
      lia
     refine⟨p,_,rfl,cU.of cV,(),(),Ia.take m,λH2 f9=>?_⟩;have R1:cR H H2:=(sm.trans gV).trans f9;refine⟨_,rfl,dw (λq2=>?_) (λq2=>?_)⟩
     .have e2:mD ((c::ns.drop (j+1)).take m)=false:=by simpa using q2
      have kk:=k H2 R1;rw[hu,U2,e2]at kk;exact kk
     .have e2:mD ((c::ns.drop (j+1)).take m)=true:=by simpa using q2
      rw[e2,aY]at U2;refine⟨_,rfl,_,_,rfl,rfl,⟨j+m,some (V.int m),?_,R1,(),?_⟩,?_⟩
      .show _=[_,some (V.int ((j+m:Nat):Int)),_];rw[show((j+m:Nat):Int)=(j:Int)+m by lia];rfl
      .rw[hu,U2,<-ed,bz]
      .show ns.length-((j:Int)+m).toNat<ns.length-(j:Int).toNat;lia
  .have lW:ns.length<=j:=by
    have z:¬_:=λz=>q (ak z);rw[az]at z;lia
   have kk:=k H' sm;rw[hu,List.drop_eq_nil_of_le lW]at kk;exact kk
 .intro σ H' Q1 Q2 hq h;dsimp only[yD,qI,Ce,kP,nI]at h ⊢;obtain⟨v,e,h⟩:=GW h;obtain⟨v2,e2,a2,xs,e3,h4,i,i2,e5,e6,z,e7,q⟩:=GW h;exact R0 (R0 ⟨a2,xs,e3,h4,i,i2,e5,e6,z,e7,hq _ _ q⟩ e2) e
end
def jl(n:Int):Int:=if 65<=n/\n<=90 then n+32 else n
def eX(z:Str):List Int:=z.cps.toList.map λ(c:Nat)=>(c:Int)
section
inductive yg(vs:List V)(H:Hp)(Q:VK)(z3:XK):Prop|m(n)(_:vs=[.int n])(_:Q (.int (jl n)) H)
abbrev NG:Stmt:=top 38
def ah4:dP ["code"] ["code"] (c9 NG):=dW
def ab0(T:TX P w K mg)(F:dM K "small" "small" NG f fd):dJ P w K mg base cY 1 f fd ["code"] yg:=by
 refine F.oK ah4 λc8 A outer s H vs Q E hr h=>?_;obtain⟨n,rfl,k⟩:=h;refine⟨_,(cX (dh (gD (Ew iJ iJ (dG T.ZE) (pv 0) (dG T.ZD)) (dm fL (pv 0) cZ) (pv 0)))),?_⟩;unfold jl at k;refine⟨_,_,rfl,rfl,_,rfl,dw (λq1=>?_) (λq1=>?_)⟩
 .have q1:=aj q1;refine⟨_,_,rfl,rfl,_,rfl,dw (λq2=>?_) (λq2=>?_)⟩
  .have q2:=aj q2;rw[ah ⟨q1,q2⟩]at k;exact⟨_,_,rfl,rfl,k⟩
  .have q2:¬n<=90:=λz=>q2 (ak z);rw[aa λz=>q2 z.2]at k;exact(k)
 .have q1:¬65<=n:=λz=>q1 (ak z);rw[aa λz=>q1 z.1]at k;exact⟨_,rfl,dB (k)⟩
inductive qb(vs:List V)(H:Hp)(Q:VK)(z3:XK):Prop|m(z)(_:vs=[.str z])(_:z.length<=100)(_:∀p,H p=none->Q (.ref p) (upd H p (.lst ((eX z).map V.int))))
abbrev Fq:Stmt:=top 39
def Mr:dP ["word","sign"] ["word"] (c9 Fq):=dW
def ab9(T:TX P w K mg)(F:dM K "codes_of" "codes_of" Fq f fd):dJ P w K mg base cY 1 f fd ["word"] qb:=by
 refine F.oK Mr λc8 A outer s H vs Q E hr h=>?_;obtain⟨z,rfl,hz,k⟩:=h;have nd:=Mr.nd;refine⟨_,(cX (dh (nk rfl nd (au6 (pv 0)) (iA (N:=["word","sign"]) (sc:=c9 Fq) (own:=[("sign",1)]) ()) (λ_ _ _ _ _=>fF (i:=1) nd (.inr rfl)) (λ_ _ _ _ _=>mq) (λ_ _ _ _ _=>(eN af0 rfl T.aG9 () (cT (pv 1))))))),?_⟩;refine⟨z,rfl,λD hD=>ad2 (YT z) (λi H'=>H'=upd H D (.lst (((eX z).take i).map V.int))) rfl ?_ ?_⟩
 .rintro i x H' hx rfl;rw[aR]at hx;obtain⟨c,hc,rfl⟩:=aG.mp hx;refine⟨rfl,_,rfl,rfl,_,cV,?_,?_⟩
  .rw[az,aW];have:(eX z).length<=100:=by unfold eX;rw[az,bR];exact hz
   exact D_ ()
  .rw[jd];have e:(eX z).take (i+1)=(eX z).take i++[(c:Int)]:=by
    rw[List.take_succ,show(eX z)[i]? =some (c:Int) by unfold eX;rw[aR,hc];rfl];rfl
   rw[e,bf];rfl
 .rintro H' rfl;have e:(eX z).take (z.cps.toList.map λc=>V.str ⟨#[c]⟩).length=eX z:=bq (by unfold eX;simp);rw[e];exact k D hD
end
section
def jm(ns:List Int)(i:Nat)(z:Str):Bool:=decide (((ns.drop i).take z.length).map jl=eX z)
inductive Eu(K:b6)(vs:List V)(H:Hp)(Q:VK)(z3:XK):Prop|m(a ns)(i:Nat)(z:Str)(_:vs=[.ref a,.int i,.str z])(_:cU K H a (ns.map V.int))(_:i<=ns.length)(_:z.length<=100)(_:∀H',cR H H'->Q (.bl (jm ns i z)) H')
abbrev ER:Stmt:=top 40
def Ls:dP ["codes","at","word","code"] ["codes","at","word"] (c9 ER):=dW
def ae4{ns:List Int}{i m:Nat}(hi:i<=ns.length):fH (ns.map V.int) (some (i:Int)) (some ((i:Int)+m))=((ns.drop i).take m).map V.int:=by
 unfold fH;have e1:=HT.qc (ns.map V.int).length 0 i;have e2:=HT.qc (ns.map V.int).length (ns.map V.int).length (i+m);rw[show((i+m:Nat):Int)=(i:Int)+m by lia]at e2;rw[e1,e2,az,Nat.min_eq_left hi,bI,bH]
 by_cases h:i+m<=ns.length
 .rw[Nat.min_eq_left h,Nat.add_sub_cancel_left]
 .rw[Nat.min_eq_right (),bq (by simp),bq (by simp;lia)]
def Y0(T:TX P w K mg)(sA:Own P w K mg base cY 1 "small" ["code"] yg)(aq7:Own P w K mg base cY 1 "codes_of" ["word"] qb)(F:dM K "begins_with" "begins_with" ER f fd):
  dJ P w K mg base cY 2 f fd ["codes","at","word"] (Eu K):=by
 refine F.oK Ls λc8 A outer s H vs Q E hr h=>?_;obtain⟨a,ns,i,z,rfl,hS,hi,hz,k⟩:=h;have nd:=Ls.nd;have iG:=hr.units;refine⟨_,(cX (dh (fQ (ql iG) (nk rfl nd (gR (fP fX (pv 0) (eY (pv 1)) (eY (dm fL (pv 1) (eN Ak rfl T.fq PySem.boot_len (cT (pv 2))))))) (iA (N:=["codes","at","word","code"]) (sc:=c9 ER) (own:=[("code",3)]) ())
  (λ_ _ _ _ _=>fF (i:=3) nd (.inr rfl)) (λ_ _ _ _ _=>mq) (λ_ _ _ _ _=>(dF sA hr (cT (pv 3))))) (dF aq7 hr (cT (pv 2)))))),?_⟩
 have hzs:z.length<=sizeLine:=Nat.le_of_lt (D_ ());refine⟨(i:Int),rfl,z,rfl,hzs,_,_,rfl,rfl,(i:Int)+z.length,rfl,a,_,rfl,hS,λp hp=>?_⟩;rw[ae4 hi];generalize hl:(ns.drop i).take z.length=l;have Cy:l.length<=100:=by rw[<-hl,aW];lia
 refine⟨p,rfl,⟨_,cU.of cV⟩,λD hD=>Bh (K:=K) (a:=p) (xs:=l.map V.int) (λj H'=>H'=upd (upd H p (.lst (l.map V.int))) D (.lst (((l.map jl).take j).map V.int))) rfl ?_ ?_ ?_⟩
 .rintro j H' _ rfl;have:p≠D:=fE cV hD;exact cU.of (by rw[eK this,cV])
 .rintro j x H' hx rfl;rw[aR]at hx;obtain⟨c,hc,rfl⟩:=aG.mp hx;refine⟨rfl,c,rfl,_,cV,?_,?_⟩
  .rw[az,aW,az];exact D_ ()
  .rw[jd];have e:(l.map jl).take (j+1)=(l.map jl).take j++[jl c]:=by
    rw[List.take_succ,show(l.map jl)[j]? =some (jl c) by rw[aR,hc];rfl];rfl
   rw[e,bf];rfl
 .rintro H' rfl;have e:(l.map jl).take (l.map V.int).length=l.map jl:=bq (by simp);rw[e];refine⟨z,rfl,hz,λq hq=>?_⟩;have hDq:D≠q:=fE cV hq;refine⟨_,_,iE (l:=l.map jl) (cU.of (by rw[eK hDq,cV])),iE (l:=eX z) (cU.of cV),shaped_ints _,shaped_ints _,?_⟩;rw[mh];have kk:=k (upd (upd (upd H p (.lst (l.map V.int))) D (.lst ((l.map jl).map V.int))) q (.lst ((eX z).map V.int))) (((cR.upd hp).trans (cR.upd hD)).trans (cR.upd hq));unfold jm at kk;rw[hl]at kk;exact kk
end
open Sv68 (isDigit lower)
abbrev cS:=List UInt8
def bi(b:cS):List Int:=b.map λc=>(c.toNat:Int)
abbrev bv(b:cS):List V:=(bi b).map V.int
def p_(b:cS):(bi b).length=b.length:=az ..
def eB(b:cS):(bv b).length=b.length:=by simp[p_]
def FU(b:cS):jZ (bi b):=λn hn=>by
 obtain⟨c,_,rfl⟩:=bJ.mp hn;have:=c.toNat_lt;lia
def rq(b:cS):oct (bi b)=b:=by
 unfold oct Sv68Neutral.octets bi;rw[bT]
 conv=>rhs;rw[<-List.map_id b]
 refine cC λc _=>?_;show UInt8.ofNat ((c.toNat:Int)).toNat=c;rw[bZ];exact cE
def BE{ns:List Int}(h:jZ ns):bi (oct ns)=ns:=by
 unfold oct Sv68Neutral.octets bi;rw[bT]
 conv=>rhs;rw[<-List.map_id ns]
 refine cC λc hc=>?_;show(((UInt8.ofNat c.toNat).toNat:Nat):Int)=c;rw[GU (h c hc)];have:=h c hc;lia
def BF{a b:cS}(h:bi a=bi b):a=b:=by rw[<-rq a,<-rq b,h]
def qt{b:cS}{i:Nat}{c:UInt8}(h:b[i]? =some c):(bv b)[i]? =some (V.int (c.toNat:Int)):=by
 unfold bv bi;rw[aR,aR,h];rfl
def we{b:cS}{i:Nat}{y:V}(h:(bv b)[i]? =some y):∃c,b[i]? =some c/\y=V.int (c.toNat:Int):=by
 unfold bv bi at h;rw[aR,aR]at h;cases e:b[i]? with
 |none=>
  rw[e]at h;cases h
 |some c=>
  rw[e]at h;exact⟨c,rfl,(aH h).symm⟩
def ym(xs:List V)(i j:Nat):fH xs (some (i:Int)) (some (j:Int))=(xs.drop i).take (j-i):=by
 unfold fH;rw[HT.qc,HT.qc]
 by_cases hi:i<=xs.length
 .rw[Nat.min_eq_left hi]
  by_cases hj:j<=xs.length
  .rw[Nat.min_eq_left hj]
  .rw[Nat.min_eq_right (),bq (by simp),bq (by simp;lia)]
 .rw[show min i xs.length=xs.length by lia,bM (aI _),bM ()];simp
def q_(xs:List V)(i:Nat):fH xs (some (i:Int)) none=xs.drop i:=by
 have h:=ym xs i xs.length;have e:fH xs (some (i:Int)) none=fH xs (some (i:Int)) (some (xs.length:Int)):=by
  unfold fH;rw[HT.qc xs.length xs.length xs.length,Nat.min_self];rfl
 rw[e,h];exact bq (by simp)
def sI(xs:List V)(j:Nat):fH xs none (some (j:Int))=xs.take j:=by
 have h:=ym xs 0 j;have e:fH xs none (some (j:Int))=fH xs (some ((0:Nat):Int)) (some (j:Int)):=by
  unfold fH;rw[HT.qc xs.length 0 0,Nat.zero_min];rfl
 rw[e,h];rfl
def Fd(b:cS)(i:Nat):(bv b).drop i=bv (b.drop i):=by unfold bv bi;rw[bH,bH]
def Fc(b:cS)(i:Nat):(bv b).take i=bv (b.take i):=by unfold bv bi;rw[bI,bI]
def rG(b:cS)(i j:Nat):fH (bv b) (some (i:Int)) (some (j:Int))=bv ((b.drop i).take (j-i)):=by rw[ym,Fd,Fc]
def AM(b:cS)(i:Nat):fH (bv b) (some (i:Int)) none=bv (b.drop i):=by rw[q_,Fd]
def Fe(b:cS)(j:Nat):fH (bv b) none (some (j:Int))=bv (b.take j):=by rw[sI,Fc]
def gh{α:Type}{b:List α}{i:Nat}{c:α}(h:b[i]? =some c):b.drop i=c::b.drop (i+1):=by
 obtain⟨hl,e⟩:=aD.mp h;rw[List.drop_eq_getElem_cons hl,e]
def iu{a b:UInt8}:a=b↔((a.toNat:Int)=(b.toNat:Int)):=by
 rw[Int.ofNat_inj];exact⟨λh=>by rw[h],UInt8.toNat_inj.mp⟩
def rZ(c:UInt8):jl (c.toNat:Int)=((lower c).toNat:Int):=by
 have key:∀k:Fin 256,jl (k.val:Int)=((lower (UInt8.ofNat k.val)).toNat:Int):=();have:=key ⟨c.toNat,c.toNat_lt⟩;simp only[cE]at this;exact this
def Bl(c:UInt8):isDigit c=true↔(48<=(c.toNat:Int)/\(c.toNat:Int)<=57):=by
 unfold isDigit;simp;omega
section
def qo(b:cS)(i:Nat):Nat:=i+((b.drop i).takeWhile isDigit).length
abbrev Rf:Stmt:=top 41
inductive OZ(K:b6)(vs:List V)(H:Hp)(Q:VK)(z3:XK):Prop|m(a b)(i:Nat)(_:vs=[.ref a,.int i])(_:cU K H a (bv b))(_:i<=b.length)(_:Q (.int (qo b i)) H)
def PF:dP ["codes","begin","end"] ["codes","begin"] (c9 Rf):=dW
def ay8(T:TX P w K mg)(F:dM K "end_of_digits" "end_of_digits" Rf f fd):dJ P w K mg base cY 1 f fd ["codes","begin"] (OZ K):=by
 refine F.oK PF λc8 A outer s H vs Q E hr h=>?_;obtain⟨a,b,i,rfl,hS,hi,k⟩:=h;have nd:=PF.nd;refine⟨_,(cW (dN (i:=2) nd (pv 1))
  (cW (r_ cA (PW.pt (nh (dj jg (pv 2) (eN fD rfl T.fq PySem.boot_len (cT (pv 0)))) (m6 (Ew iJ iJ (dG T.sJ) (fM fW (pv 0) (pv 2) (λ_ _=>rfl)) (dG T.aC8))))) (cX (mz (i:=2) nd rfl (Or.inl rfl) cZ qm)))
  (cX (dh (pv 2))))),?_⟩
 refine(?_);refine⟨λm σ H'=>∃j:Nat,σ=[some (.ref a),some (.int i),some (.int j)]/\H=H'/\j<=b.length/\qo b j=qo b i/\m=b.length-j,⟨_,i,rfl,rfl,hi,rfl,rfl⟩,?_⟩;rintro m σ H' ⟨j,rfl,rfl,hj,hd,rfl⟩;refine⟨a,_,rfl,.inl hS,_,_,rfl,rfl,_,rfl,dw (λq=>?_) (λq=>?_)⟩
 .have eF:j<b.length:=by
   have:=aj q;rw[eB]at this;lia
  obtain⟨c,hc⟩:∃c,b[j]? =some c:=⟨_,br eF⟩;have ed:=gh hc;have stop:isDigit c=false->Q (.int j) H:=λz=>by
   have:qo b j=j:=by
    unfold qo;rw[ed,aF,z];rfl
   rw[<-hd,this]at k;exact k
  refine⟨a,_,_,_,rfl,rfl,hS,eV (qt hc),_,_,rfl,rfl,_,rfl,dw (λq1=>?_) (λq1=>?_)⟩
  .have q1:(48:Int)<=c.toNat:=aj q1;refine⟨_,_,rfl,rfl,_,rfl,dw (λq2=>?_) (λq2=>?_)⟩
   .have q2:(c.toNat:Int)<=57:=aj q2;refine⟨_,λσ' H' z=>z,_,rfl,_,_,rfl,rfl,b.length-(j+1),(),j+1,rfl,rfl,eF,?_,rfl⟩;rw[<-hd];unfold qo;rw[ed,aF,ah ((Bl c).mpr ⟨q1,q2⟩),aK];lia
   .have q2:¬(c.toNat:Int)<=57:=λz=>q2 (ak z);exact(stop (by rw[Bool.eq_false_iff];exact λz=>q2 ((Bl c).mp z).2))
  .have q1:¬(48:Int)<=c.toNat:=λz=>q1 (ak z);exact⟨_,rfl,dB (stop (by rw[Bool.eq_false_iff];exact λz=>q1 ((Bl c).mp z).1))⟩
 .have lW:b.length<=j:=by
   have:¬(j:Int)<((bv b).length:Int):=λz=>q (ak z);rw[eB]at this;lia
  refine dB (?_);have:qo b j=j:=by
   unfold qo;rw[bM lW];rfl
  rw[<-hd,this]at k;exact k
abbrev P_:Stmt:=top 42
def iP(b:cS)(lo hi:Nat):Bool:=decide (lo<=b.length)&&(decide (b.length<=hi)&&b.all isDigit)
inductive Nr(K:b6)(vs:List V)(H:Hp)(Q:VK)(z3:XK):Prop|m(a b)(lo hi:Nat)(_:vs=[.ref a,.int lo,.int hi])(_:cU K H a (bv b))(_:Q (.bl (iP b lo hi)) H)
def at5:dP ["codes","least","most"] ["codes","least","most"] (c9 P_):=dW
theorem takeWhile_all{α:Type}(p:α->Bool):∀l:List α,(l.takeWhile p).length=l.length↔l.all p=true
 |[]=>by simp
 |a::l=>by
  rw[aF,bu];cases h:p a with
  |true=>simpa using takeWhile_all p l
  |false=>simp
def ak4(T:TX P w K mg)(aI8:Own P w K mg base cY 1 "end_of_digits" ["codes","begin"] (OZ K))(F:dM K "are_digits" "are_digits" P_ f fd):dJ P w K mg base cY 2 f fd ["codes","least","most"] (Nr K):=by
 refine F.oK at5 λc8 A outer s H vs Q E hr h=>?_;obtain⟨a,b,lo,hi,rfl,hS,k⟩:=h;refine⟨_,(cX (dh (mC (vH iJ iJ (pv 1) (eN fD rfl T.fq PySem.boot_len (cT (pv 0))) (pv 2)) (kh (fQ dU (dF aI8 hr (c_ (pv 0) (cT cZ))) (eN fD rfl T.fq PySem.boot_len (cT (pv 0)))))))),?_⟩;unfold iP at k;refine⟨a,_,rfl,.inl hS,_,_,rfl,rfl,_,rfl,dw (λq=>?_) (λq=>?_)⟩
 .have q1:lo<=b.length:=by
   have:=aj q;rw[eB]at this;lia
  rw[ak q1,aY]at k;refine⟨_,_,rfl,rfl,_,rfl,dw (λq=>?_) (λq=>?_)⟩
  .have q2:b.length<=hi:=by
    have:=aj q;rw[eB]at this;lia
   rw[ak q2,aY]at k;refine⟨a,b,0,rfl,hS,aP _,a,_,rfl,.inl hS,rfl,?_⟩;have e:decide (V.int ((qo b 0:Nat):Int)=V.int (((bv b).length:Nat):Int))=b.all isDigit:=by
    rw[bC,aq,<-takeWhile_all,eB];unfold qo;rw[List.drop_zero,Nat.zero_add];exact⟨λz=>Int.ofNat_inj.mp (V.int.inj z),λz=>by rw[z]⟩
   rw[<-e]at k;exact k
  .have q2:¬b.length<=hi:=λz=>q (ak (by rw[eB];lia));rw[ao q2,aZ]at k;exact k
 .have q1:¬lo<=b.length:=λz=>q (ak (by rw[eB];lia));rw[ao q1,aZ]at k;exact⟨_,rfl,dB k⟩
abbrev NJ:Stmt:=top 44
inductive Mg(K:b6)(vs:List V)(H:Hp)(Q:VK)(z3:XK):Prop|m(a b)(_:vs=[.ref a])(_:cU K H a (bv b))(_:b.all isDigit=true)(_:Q (.int (number b)) H)
def Mn:dP ["digits","number","digit"] ["digits"] (c9 NJ):=dW
def Xl(b:cS)(c:UInt8):number (b++[c])=10*number b+(c.toNat-48):=by
 unfold number;rw[List.foldl_append];rfl
def take_snoc{α:Type}{l:List α}{i:Nat}{x:α}(h:l[i]? =some x):l.take (i+1)=l.take i++[x]:=by
 rw[List.take_succ,h];rfl
def ab4(T:TX P w K mg)(F:dM K "number_of" "number_of" NJ f fd):dJ P w K mg base cY 1 f fd ["digits"] (Mg K):=by
 refine F.oK Mn λc8 A outer s H vs Q E hr h=>?_;obtain⟨a,b,rfl,hS,hd,k⟩:=h;have nd:=Mn.nd;refine⟨_,(cW (dN (i:=1) nd cZ)
  (cW (kN cA rfl (gR (pv 0)) (fF (i:=2) nd) (cX (dN (i:=1) nd (dm iI (dm fL (dm ki (pv 1) cZ) (pv 2)) (dG T.sJ)))))
  (cX (dh (pv 1))))),?_⟩
 refine⟨a,rfl,⟨_,hS⟩,vM (K:=K) (a:=a) (xs:=bv b) (λi σ H'=>∃v:Option V,σ=[some (.ref a),some (.int (number (b.take i):Nat)),v]/\H=H') ⟨none,rfl,rfl⟩ (λi σ H' _ ⟨_,_,e⟩=>e▸hS) ?_ ?_⟩
 .rintro i y σ H' hy ⟨v,rfl,rfl⟩;obtain⟨c,hc,rfl⟩:=we hy;have SS:=(Bl c).mp (bg.mp hd c (bx hc));refine⟨_,_,rfl,rfl,.inr ⟨(),()⟩,_,_,rfl,rfl,_,_,rfl,rfl,some (V.int c.toNat),?_,rfl⟩;rw[take_snoc hc,Xl];show [some (V.ref a),some (V.int ((number (b.take i):Int)*10+c.toNat-48)),some (V.int c.toNat)]=_;rw[show(number (b.take i):Int)*10+c.toNat-48=((10*number (b.take i)+(c.toNat-48):Nat):Int) by lia]
 .rintro σ H' ⟨v,rfl,rfl⟩;rw[bq (by rw[eB];exact aI _)];exact(k)
end
def Aw(p:UInt8->Bool)(x:UInt8)(xs:cS):List.splitOnP p (x::xs)=if p x=true then []::List.splitOnP p xs else List.modifyHead (List.cons x) (List.splitOnP p xs):=List.splitOnP_cons_eq_if_modifyHead ..
theorem split_free{c:UInt8}:∀{t:cS},(∀x∈t,x≠c)->t.splitOn c=[t]
 |[],_=>List.splitOn_nil c
 |x::t,h=>by
  have hx:=h x aB;have ih:List.splitOnP (λy=>y==c) t=[t]:=split_free (c:=c) (t:=t) λy hy=>h y (aA _ hy);show List.splitOnP (λy=>y==c) (x::t)=_;rw[Aw,aa (by simpa using hx),ih];rfl
theorem AR{c:UInt8}{r:cS}:∀{t:cS},(∀x∈t,x≠c)->(t++c::r).splitOn c=t::r.splitOn c
 |[],_=>by
  show List.splitOnP (λy=>y==c) (c::r)=_;rw[Aw,ah (by simp)];rfl
 |x::t,h=>by
  have hx:=h x aB;have ih:List.splitOnP (λy=>y==c) (t++c::r)=t::r.splitOn c:=AR (c:=c) (t:=t) λy hy=>h y (aA _ hy);show List.splitOnP (λy=>y==c) (x::(t++c::r))=_;rw[Aw,aa (by simpa using hx),ih];rfl
theorem split_len{c:UInt8}:∀b:cS,(b.splitOn c).length<=b.length+1
 |[]=>by rw[List.splitOn_nil];simp
 |x::t=>by
  have ih:(List.splitOnP (λy=>y==c) t).length<=t.length+1:=split_len (c:=c) t;show(List.splitOnP (λy=>y==c) (x::t)).length<=_;rw[Aw];split
  .simpa using ih
  .rw[List.length_modifyHead];simp;lia
def Et(c:UInt8)(b:cS):b.splitOn c≠[]:=λh=>List.splitOn_ne_nil _ _ h
section
abbrev NI:Stmt:=top 71
def Mm:dP ["base","exponent","result","step"] ["base","exponent"] (c9 NI):=dW
inductive sq(vs:List V)(H:Hp)(Q:VK)(z3:XK):Prop|m(x:Int)(e:Nat)(_:vs=[.int x,.int e])(_:0<=x)(_:x<2^64)(_:e<1000)(_:Q (.int (x^e)) H)
def ab3(T:TX P w K mg)(F:dM K "power" "power" NI f fd):dJ P w K mg base cY 1 f fd ["base","exponent"] sq:=by
 refine F.oK Mm λc8 A outer s H vs Q E hr h=>?_;obtain⟨x,e,rfl,h0,h1,he,k⟩:=h;have nd:=Mm.nd;refine⟨_,(cW (dN (i:=2) nd cZ)
  (cW (kN cA rfl (YV rfl T.al3 (cT (pv 1))) (fF (i:=3) nd) (cX (mz (i:=2) nd rfl (Or.inl rfl) (pv 0) am6)))
  (cX (dh (pv 2))))),?_⟩
 refine⟨(e:Int),rfl,(),(),?_⟩;refine Zl (λi σ H'=>∃v,H=H'/\σ=[some (.int x),some (.int e),some (.int (x^i)),v]) ⟨none,rfl,by rw[Int.pow_zero];rfl⟩ ?_ ?_
 .rintro i σ H' hi ⟨v,rfl,rfl⟩;refine⟨_,rfl,_,_,rfl,rfl,.inr ⟨(),h1⟩,some (V.int (0+(i:Int))),rfl,?_⟩;rw[Int.pow_succ];rfl
 .rintro σ H' ⟨v,rfl,rfl⟩;refine(?_);rw[bZ];exact k
abbrev Mt:Stmt:=top 43
def Lp:dP ["codes","sign","parts","begin","at","code"] ["codes","sign"] (c9 Mt):=dW
def M1(H:Hp)(qs:List Addr)(ls:List cS):Prop:=A2 (λq l=>H q=some (.lst (bv l))) qs ls
inductive Lj(K:b6)(vs:List V)(H:Hp)(Q:VK)(z3:XK):Prop|m(a b)(c:UInt8)(_:vs=[.ref a,.int c.toNat])(_:cU K H a (bv b))(_:b.length<=70000)(_:∀(p:Addr) (H':Hp) (qs:List Addr),cR H H'->H' p=some (.lst (qs.map V.ref))->M1 H' qs (b.splitOn c)->Q (.ref p) H')
def YX(T:TX P w K mg)(F:dM K "parted" "parted" Mt f fd):dJ P w K mg base cY 1 f fd ["codes","sign"] (Lj K):=by
 refine F.oK Lp λc8 A outer s H vs Q E hr h=>?_;obtain⟨a,b,c,rfl,hS,hlen,k⟩:=h;have nd:=Lp.nd;refine⟨_,(cW (dN (i:=2) nd (fJ ir))
  (cW (dN (i:=3) nd cZ)
  (cW (kN cA rfl (vP rfl T.t_ (cT (pv 0))) (uD rfl (lA (fF (i:=4) nd) (lA (fF (i:=5) nd) ux))) (cX (dO (dj dU (pv 5) (pv 1)) (cW (iO (gk b7 cK cM mX (pv 2) (cT (fP fX (pv 0) (eY (pv 3)) (eY (pv 4))))))
  (cX (dN (i:=3) nd (dm fL (pv 4) cZ)))) dX)))
  (cW (iO (gk b7 cK cM mX (pv 2) (cT (fP fX (pv 0) (eY (pv 3)) gQ))))
  (cX (dh (pv 2))))))),?_⟩
 refine⟨aP _,λp hp=>?_⟩;refine⟨a,_,rfl,(cR.upd hp).seq hS,yd (K:=K) (a:=a) (xs:=bv b) (λi σ H'=>∃(g:Nat) (qs:List Addr) (ls:List cS) (v4 v5:Option V),σ=[some (.ref a),some (.int c.toNat),some (.ref p),some (.int g),v4,v5]/\cR H H'/\H' p=some (.lst (qs.map V.ref))/\
   A2 (λq l=>q≠p/\H' q=some (.lst (bv l))) qs ls/\g<=i/\(∀x∈(b.drop g).take (i-g),x≠c)/\b.splitOn c=ls++(b.drop g).splitOn c/\qs.length<=i)
  ⟨0,[],[],none,none,rfl,cR.upd hp,cV,.nil,aI _,by simp,rfl,aI _⟩ (λi σ H' _ ⟨_,_,_,_,_,_,sm,_⟩=>sm.seq hS) ?_ ?_⟩
 .rintro i y σ H' T' hy ⟨g,qs,ls,v4,v5,rfl,sm,fh,hA,hg,hf,hs,hq⟩ hT;obtain⟨x,hx,rfl⟩:=we hy;have gv:i<b.length:=(aD.mp hx).1;refine⟨T',_,rfl,e_.of cV,rfl,_,_,rfl,_,_,rfl,rfl,?_⟩;have sT:cR H' (upd H' T' (.tup [.int (i:Nat),.int x.toNat])):=cR.upd hT;have kY:=sm.trans sT;refine⟨rfl,_,rfl,dw (λq=>?_) (λq=>?_)⟩
  .have exc:x=c:=iu.mpr (V.int.inj (aj q));subst exc;have ep:((b.drop g).take (i-g))++x::b.drop (i+1)=b.drop g:=by
    have:=List.take_append_drop (i-g) (b.drop g);rw[bz,show g+(i-g)=i by lia,gh hx]at this;exact this
   have es:(b.drop g).splitOn x=(b.drop g).take (i-g)::(b.drop (i+1)).splitOn x:=by
    conv=>lhs;rw[<-ep]
    exact AR hf
   refine⟨.inl ⟨rfl,_,cU.of (sT _ _ fh)⟩,(g:Int),rfl,(i:Int),rfl,a,_,rfl,kY.seq hS,λq pI=>?_⟩;rw[rG];have pq:p≠q:=fE (sT _ _ fh) pI;refine⟨p,_,_,rfl,rfl,(by rw[eK pq];exact sT _ _ fh),(by rw[az];show _<2^24;lia),?_⟩;refine⟨_,_,rfl,rfl,i+1,qs++[q],ls++[(b.drop g).take (i-g)],_,_,rfl,?_,?_,?_,(),by simp,?_,?_⟩
   .exact((kY.trans (cR.upd pI)).off hp)
   .rw[cV,bf];rfl
   .refine A2.snoc ⟨cH pq,?_⟩ (A2.imp (λq' l' h'=>⟨h'.1,?_⟩) hA)
    .rw[eK (cH pq),cV]
    .rw[eK h'.1];exact(cR.upd pI) _ _ (sT _ _ h'.2)
   .rw[hs,es,bw];rfl
   .rw[aC];exact Nat.succ_le_succ hq
  .have exc:x≠c:=λe=>q (ak (by rw[e]));refine⟨g,qs,ls,_,_,rfl,kY,sT _ _ fh,A2.imp (λq' l' h'=>⟨h'.1,sT _ _ h'.2⟩) hA,(),?_,hs,()⟩;intro z hz;have e1:i+1-g=(i-g)+1:=();have e2:(b.drop g)[i-g]? =some x:=by
    rw[List.getElem?_drop,show g+(i-g)=i by lia];exact hx
   rw[e1,take_snoc e2,List.mem_append]at hz;rcases hz with hz|hz
   .exact hf z hz
   .rw[List.mem_singleton]at hz;rw[hz];exact exc
 .rintro σ H' ⟨g,qs,ls,v4,v5,rfl,sm,fh,hA,hg,hf,hs,hq⟩;rw[eB]at hg hf hq;have ef:(b.drop g).take (b.length-g)=b.drop g:=bq (by simp);rw[ef]at hf;refine⟨.inl ⟨rfl,_,cU.of fh⟩,(g:Int),rfl,a,_,rfl,sm.seq hS,λq pI=>?_⟩;rw[AM];have pq:p≠q:=fE fh pI;refine⟨p,_,_,rfl,rfl,(by rw[eK pq];exact fh),(by rw[az];show _<2^24;lia),?_⟩;refine(k p _ (qs++[q]) ((sm.trans (cR.upd pI)).off hp) (by rw[cV,bf];rfl) ?_);rw[hs,split_free hf];refine A2.snoc ?_ (A2.imp (λq' l' h'=>?_) hA)
  .rw[eK (cH pq),cV]
  .rw[eK h'.1];exact(cR.upd pI) _ _ h'.2
end
def Xm(b:cS):∀n:Nat,b.foldl (λn c=>10*n+(c.toNat-48)) n=n*10^b.length+number b:=by
 induction b with
 |nil=>intro n;simp[number]
 |cons c b ih=>
  intro n;unfold number;rw[List.foldl_cons,List.foldl_cons,ih,ih (10*0+(c.toNat-48)),aK,Nat.pow_succ,Nat.add_mul,Nat.mul_zero,Nat.zero_add,Nat.add_assoc];congr 1;rw[Nat.mul_comm 10 n,Nat.mul_assoc,Nat.mul_comm 10 (10^b.length)]
def Dv(a b:cS):number (a++b)=number a*10^b.length+number b:=by
 conv=>lhs;unfold number
 rw[List.foldl_append,Xm b];rfl
theorem DG:∀k:Nat,number (List.replicate k 48)=0
 |0=>rfl
 |k+1=>by
  rw[List.replicate_succ,show(48:UInt8)::List.replicate k 48=[48]++List.replicate k 48 from rfl,Dv,DG k];simp[number]
def nP(s:Bool)(w d:cS):Int:=let z:Int:=(number (w++d):Int)*10^(12-d.length)
 if s=true then-z else z
noncomputable def ze(b:cS):Option Int:=
 let s:=decide (b.take 1=[45])
 match(if s=true then b.drop 1 else b).splitOn 46 with
 |[w]=>if iP w 1 24=true then some (nP s w [])else none
 |[w,d]=>if iP w 1 24=true/\iP d 1 12=true then some (nP s w d)else none
 |_=>none
def ou{b:cS}{lo hi:Nat}:iP b lo hi=true↔(lo<=b.length/\b.length<=hi/\b.all isDigit=true):=by
 unfold iP;simp[aE]
theorem FO(c:UInt8):∀l:cS,(∀x∈l,x≠c)\/∃t r,l=t++c::r/\∀x∈t,x≠c
 |[]=>.inl λ_ h=>by cases h
 |a::l=>by
  by_cases h:a=c
  .exact .inr ⟨[],l,by rw[h];rfl,λ_ h=>by cases h⟩
  .rcases FO c l with hl|⟨t,r,e,ht⟩
   .refine .inl λx hx=>?_;rcases aN.mp hx with e|hx
    .rw[e];exact h
    .exact hl x hx
   .refine .inr ⟨a::t,r,by rw[e];rfl,λx hx=>?_⟩;rcases aN.mp hx with e|hx
    .rw[e];exact h
    .exact ht x hx
theorem Fi{p:UInt8->Bool}:∀{l:cS},l.all p=true->l.takeWhile p=l
 |[],_=>rfl
 |a::l,h=>by
  rw[bu,aE]at h;rw[aF,ah h.1,Fi h.2]
theorem Ky{p:UInt8->Bool}{c:UInt8}{r:cS}(hc:p c=false):∀{l:cS},(l++c::r).takeWhile p=l.takeWhile p
 |[]=>by rw[cD,aF,hc];rfl
 |a::l=>by
  rw[bK,aF,aF];split
  .rw[Ky hc]
  .rfl
theorem EJ{p:UInt8->Bool}:∀{l:cS},l.all p=false->∃a r,l.drop (l.takeWhile p).length=a::r/\p a=false/\a∈l
 |[],h=>by cases h
 |a::l,h=>by
  rw[aF];cases hp:p a with
  |false=>exact⟨a,l,rfl,hp,aB⟩
  |true=>
   rw[bu,hp,aY]at h;obtain⟨x,r,e,hx,hm⟩:=EJ h;exact⟨x,r,e,hx,aA _ hm⟩
def al8(b:cS):ze b=decimalIn b:=by
 unfold ze decimalIn;have es:(b.head? ==some 45)=decide (b.take 1=[45]):=by
  cases b with
  |nil=>rfl
  |cons c r=>
   show(some c==some 45)=decide ([c]=[45]);rw[bC];simp
 rw[es];generalize decide (b.take 1=[45])=s;dsimp only;generalize (if s=true then b.drop 1 else b)=l;have pd:isDigit 46=false:=();rcases FO 46 l with hl|⟨t,r,rfl,ht⟩
 .rw[split_free hl];dsimp only;cases ha:l.all isDigit with
  |true=>
   rw[Fi ha,List.drop_length,ah rfl];dsimp only[Option.bind_some];have e1:iP l 1 24=true↔¬(l=[]\/24<l.length\/12<([]:cS).length):=by
    rw[ou,ha];cases l<;>simp
    all_goals (try omega)
   by_cases h:iP l 1 24=true
   .rw[ah h,aa (e1.mp h)];unfold nP;rw[aU,cD,List.length_nil,show number (List.replicate (12-0) 48)=0 from DG 12];simp[Wbk.ONE]
   .rw[aa h,ah (by by_cases q:l=[]\/24<l.length\/12<([]:cS).length;exact q;exact(h (e1.mpr q)).elim)]
  |false=>
   obtain⟨a,r,e,ha',hm⟩:=EJ ha;rw[aa (by rw[ou,ha];simp),e,aa (by simp),aa (by rintro⟨h,_⟩;exact hl a hm (aH h))];rfl
 .rw[AR ht,Ky pd];cases ha:t.all isDigit with
  |true=>
   rw[Fi ha,List.drop_left,aa (by simp)];have e2:((46::r).head? =some (46:UInt8)/\2<=(46::r).length/\((46::r).drop 1).all isDigit=true)↔(1<=r.length/\r.all isDigit=true):=by
    simp
   rcases FO 46 r with hr|⟨t2,r2,rfl,mR⟩
   .rw[split_free hr];dsimp only
    by_cases h:1<=r.length/\r.all isDigit=true
    .rw[ah (e2.mpr h)];show _=Option.bind (some r) _;rw[Option.bind_some];have e1:(iP t 1 24=true/\iP r 1 12=true)↔¬(t=[]\/24<t.length\/12<r.length):=by
      rw[ou,ou,ha,h.2];cases t<;>simp
      all_goals (try omega)
     by_cases h':iP t 1 24=true/\iP r 1 12=true
     .rw[ah h',aa (e1.mp h')];have aS4:=(ou.mp h'.2).2.1;unfold nP;have ez:(number (t++r):Int)*10^(12-r.length)=(number t:Int)*Wbk.ONE+(number (r++List.replicate (12-r.length) 48):Int):=by
       rw[Dv,Dv r,DG,List.length_replicate,Nat.add_zero];have e3:(10:Int)^r.length*10^(12-r.length)=Wbk.ONE:=by
        rw[<-Int.pow_add,show r.length+(12-r.length)=12 by omega];rfl
       push_cast
       rw[Int.add_mul,Int.mul_assoc,e3]
      rw[ez]
     .rw[aa h',ah (by by_cases q:t=[]\/24<t.length\/12<r.length;exact q;exact(h' (e1.mpr q)).elim)]
    .rw[aa (λz=>h (e2.mp z)),aa (λz=>h ⟨(ou.mp z.2).1,(ou.mp z.2).2.2⟩)];rfl
   .have k8:¬(1<=(t2++46::r2).length/\(t2++46::r2).all isDigit=true):=by
     rintro⟨_,h⟩;rw[List.all_append,bu,pd]at h;simp at h
    rw[aa (λz=>k8 (e2.mp z)),AR mR];obtain⟨x,y,e⟩:∃x y,r2.splitOn 46=x::y:=List.exists_cons_of_ne_nil (Et 46 r2);rw[e];rfl
  |false=>
   obtain⟨a,q,e,ha',hm⟩:=EJ ha;have ed:(t++46::r).drop (t.takeWhile isDigit).length=a::(q++46::r):=by
    rw[List.drop_append_of_le_length ((aT _).length_le),e];rfl
   rw[ed,aa (by simp),aa (by rintro⟨h,_⟩;exact ht a hm (aH h))];have nd:iP t 1 24=false:=by
    rw[Bool.eq_false_iff,Ne,ou,ha];simp
   split
   .rename_i w' h;have:=List.cons.inj h;rw[<-this.1,nd];rfl
   .rename_i w' d' h;have:=List.cons.inj h;rw[<-this.1,nd];rfl
   .rfl
def vp(v1 v2:V):List (Str×V):=(eG "limit" v2 (eG "comparison" v1 []))
def jc{v1 v2:V}:(vp v1 v2).lookup ("comparison":Str)=some v1:=by
 unfold vp;rw[eO,aa (),eO,ah rfl]
def vn{v1 v2:V}:(vp v1 v2).lookup ("limit":Str)=some v2:=by
 unfold vp;rw[eO,ah rfl]
structure DJ(K:b6)(C:Addr):Prop where
 cl:lq K C
 iY:gz K C "comparison"
 uA:gz K C "limit"
def xV(C:Addr)(H:Hp)(a:Addr)(v1 v2:V):Prop:=∃dx,H a=some (.ins C dx (vp v1 v2))
abbrev Jx:Stmt:=inClass (top 77) 0
inductive DE(C:Addr)(vs:List V)(H:Hp)(Q:VK)(z3:XK):Prop|m(p dx:Addr)(v1 v2:V)(_:vs=[.ref p,v1,v2])(_:H p=some (.ins C dx []))(_:Q .dI (upd H p (.ins C dx (vp v1 v2))))
def Wu:dP ["self","comparison","limit"] ["self","comparison","limit"] (c9 Jx):=dW
def Ww{P:Program}{w:World}{K:b6}{mg:Str->Option Value}{base:Heap}{f C:Addr}(T:DJ K C)(F:dM K "__init__" "Condition.__init__" Jx f fd):dJ P w K mg base cY 1 f fd ["self","comparison","limit"] (DE C):=by
 refine F.oK Wu λc8 A outer s H vs Q E hr h=>?_;obtain⟨p,dx,v1,v2,rfl,hp,k⟩:=h;refine⟨_,(cW (iC (pv 0) (pv 1) rfl) (cX (iC (pv 0) (pv 2) rfl))),?_⟩;refine⟨p,C,dx,[],rfl,hp,T.cl,T.iY,(by show 0<1000;decide),?_⟩;refine⟨p,C,dx,_,rfl,cV,T.cl,T.uA,(by show 1<1000;decide),?_⟩;rw[jd];exact k
def bi_dec(a b:cS):decide (bi a=bi b)=decide (a=b):=au.mpr ⟨BF,λh=>by rw[h]⟩
section
abbrev wm:Stmt:=top 79
def Nv:dP ["comparison","codes","is_below","parts","decimals","limit"] ["comparison","codes"] (c9 wm):=dW
inductive Ng(K:b6)(C:Addr)(vs:List V)(H:Hp)(Q:VK)(z3:XK):Prop|m(z a b)(_:vs=[.str z,.ref a])(_:cU K H a (bv b))(_:b.length<=300)(_:(∀H',cR H H'->decimalIn b=none->Q .dI H'))(_:∀H' c v,cR H H'->decimalIn b=some v->H c=none->xV C H' c (.str z) (.int v)->Q (.ref c) H')
def aj3{f C:Addr}(T:TX P w K mg)(JK:Own P w K mg base cY 2 "are_digits" ["codes","least","most"] (Nr K))(af3:Own P w K mg base cY 1 "parted" ["codes","sign"] (Lj K))
  (XT:Own P w K mg base cY 1 "number_of" ["digits"] (Mg K))(j9:Own P w K mg base cY 1 "power" ["base","exponent"] sq)(XX:jD P w K mg base cY 1 C "Condition" ["self","comparison","limit"] (DE C))
  (F:dM K "read_limit" "read_limit" wm f fd):dJ P w K mg base cY 3 f fd ["comparison","codes"] (Ng K C):=by
 refine F.oK Nv λc8 A outer s H vs Q E hr h=>?_;obtain⟨z,a,b,rfl,hS,hlen,k0,k1⟩:=h;have nd:=Nv.nd;have iG:=hr.units;rw[<-al8]at k0 k1;obtain⟨t5,h5,q5⟩:∃t5,gb (gJ cY P w K mg base ["comparison","codes","is_below","parts","decimals","limit"] "read_limit" (c9 wm) f c8 A outer s H E).jV ((gH wm).drop 5) t5/\
   ∀(sg:Bool) (p q0 dq:Addr) (qs:List Addr) (w' d':cS) (H2:Hp),cR H H2->H2 p=some (.lst ((q0::qs).map V.ref))->H2 q0=some (.lst (bv w'))->H2 dq=some (.lst (bv d'))->w'.all isDigit=true->d'.all isDigit=true->w'.length<=24->d'.length<=12->
    ze b=some (nP sg w' d')->t5 {nx:=λ_ H'=>Q .dI H',rt:=Q} [some (.str z),some (.ref a),some (.bl sg),some (.ref p),some (.ref dq),none] H2:=by
  refine⟨_,(cW (dN (i:=5) nd (dm ki (dF XT hr (cT (dm ni (fM fW (pv 3) cZ (λ_ _=>rfl)) (pv 4)))) (dF j9 hr (c_ cZ (cT (dm iI (dG T.Jf) (eN fD rfl T.fq () (cT (pv 4)))))))))
  (cX (dh (iQ XX hr (c_ (pv 0) (cT (gD (iH (pv 2)) (sO sE (pv 5)) (pv 5)))))))),?_⟩
  intro sg p q0 dq qs w' d' H2 sm hp hq hd aw ad lw ld hl;refine⟨p,_,_,_,rfl,rfl,cU.of hp,eV (j:=0) rfl,q0,dq,_,_,rfl,rfl,hq,hd,(by rw[eB,eB];show _<=2^24;omega),λr qL=>?_⟩;have er:bv w'++bv d'=bv (w'++d'):=by
   unfold bv bi;rw[bf,bf]
  rw[er];have s3:=sm.trans (cR.upd (o:=.lst (bv (w'++d'))) qL);have qN:=(cR.upd (o:=.lst (bv (w'++d'))) qL) _ _ hd;refine⟨r,w'++d',rfl,cU.of cV,(by rw[List.all_append,aw,ad];rfl),dq,_,rfl,.inl (cU.of qN),_,_,rfl,rfl,(10:Int),12-d'.length,?_,(),(),by omega,_,_,rfl,rfl,.inr ?_,?_⟩
  .rw[eB,show((12-d'.length:Nat):Int)=12-(d'.length:Int) by omega];rfl
  .have:(10:Int)^(12-d'.length)<=10^12:=by
    have:=bL (n:=10) () (show 12-d'.length<=12 by omega)
    exact_mod_cast this
   have p0:(0:Int)<10^(12-d'.length):=Int.pow_pos ();constructor
   .omega
   .omega
  .have fin:∀v:Int,nP sg w' d'=v->∀x dx:Addr,∀H3,cR H H3->H3 x=none->H3 dx=none->dx≠x->DE C (.ref x::([.str z,.int v]++[])) (upd (upd H3 dx (.own x)) x (.ins C dx [])) (λv H2=>v= .dI/\Q (.ref x) H2) E0:=by
    intro v ev x dx H3 s4 hx eU dR;exact⟨x,dx,_,_,rfl,cV,rfl,k1 _ x v (s4.ins hx eU) (by rw[hl,ev]) (s4.free hx) ⟨dx,cV⟩⟩
   refine⟨_,rfl,?_⟩;cases sg with
   |true=>exact dZ ⟨_,rfl,λx dx hx eU dR=>fin _ (by unfold nP;rfl) x dx _ s3 hx eU dR⟩
   |false=>exact dB (λx dx hx eU dR=>fin _ (by unfold nP;rfl) x dx _ s3 hx eU dR)
 obtain⟨t2,h2,q2⟩:∃t2,gb (gJ cY P w K mg base ["comparison","codes","is_below","parts","decimals","limit"] "read_limit" (c9 wm) f c8 A outer s H E).jV ((gH wm).drop 2) t2/\
   ∀(sg:Bool) (p:Addr) (qs:List Addr) (ls:List cS) (H2:Hp),cR H H2->H2 p=some (.lst (qs.map V.ref))->M1 H2 qs ls->ls≠[]->ls.length<=1000->
    ze b=(match ls with
     |[w]=>if iP w 1 24=true then some (nP sg w [])else none
     |[w,d]=>if iP w 1 24=true/\iP d 1 12=true then some (nP sg w d)else none
     |_=>none)->t2 {nx:=λ_ H'=>Q .dI H',rt:=Q} [some (.str z),some (.ref a),some (.bl sg),some (.ref p),none,none] H2:=by
  refine⟨_,(cW (dO (PW.pt (mF (dj iV (eN fD rfl T.fq () (cT (pv 3))) cZ) (oE (uB (iH (dF JK hr (c_ (fM fW (pv 3) cZ (λ_ _=>rfl)) (c_ cZ (cT (dG T.Wh)))))))))) (cX (dh sH)) dX)
  (cW (dO (PW.pt (nh (dj dU (eN fD rfl T.fq () (cT (pv 3))) cZ) (m6 (uB (iH (dF JK hr (c_ (fM fW (pv 3) cZ (λ_ _=>rfl)) (c_ cZ (cT (dG T.Jf)))))))))) (cX (dh sH)) dX)
  (cW (dN (i:=4) nd (gD (dj dU (eN fD rfl T.fq () (cT (pv 3))) cZ) (fM fW (pv 3) cZ (λ_ _=>rfl)) (fJ ir)))
  h5))),?_⟩
  intro sg p qs ls H2 sm hp hL dR mT hl;cases hL with
  |nil=>exact(dR rfl).elim
  |@cons q0 w' R9 Sk c0 hL=>
  cases hL with
  |nil=>
   dsimp only at hl;refine⟨p,_,rfl,.inl (cU.of hp),_,_,rfl,rfl,_,rfl,dw (λq=>by simp at q) λ_=>?_⟩;refine⟨p,_,_,_,rfl,rfl,cU.of hp,eV (j:=0) rfl,q0,w',1,24,rfl,cU.of c0,_,rfl,?_⟩;cases hd:iP w' 1 24 with
   |false=>
    rw[hd]at hl;exact dZ (k0 _ sm hl)
   |true=>
    rw[hd,ah rfl]at hl;obtain⟨kI,hd2,qN⟩:=ou.mp hd;refine dB ⟨p,_,rfl,.inl (cU.of hp),rfl,_,rfl,dw (λq=>by simp at q) λ_=>dB ?_⟩;refine⟨p,_,rfl,.inl (cU.of hp),rfl,_,rfl,dw (λq=>by simp at q) λ_=>⟨aP _,λr qL=>?_⟩⟩;have su:=cR.upd (o:=.lst []) qL;exact q5 sg p q0 r [] w' [] _ (sm.trans su) (su _ _ hp) (su _ _ c0) cV qN rfl hd2 () hl
  |@cons q1 d' R9 Sk c1 hL=>
  cases hL with
  |nil=>
   dsimp only at hl;refine⟨p,_,rfl,.inl (cU.of hp),_,_,rfl,rfl,_,rfl,dw (λq=>by simp at q) λ_=>?_⟩;refine⟨p,_,_,_,rfl,rfl,cU.of hp,eV (j:=0) rfl,q0,w',1,24,rfl,cU.of c0,_,rfl,?_⟩;cases hd:iP w' 1 24 with
   |false=>
    rw[hd,aa (by simp)]at hl;exact dZ (k0 _ sm hl)
   |true=>
    obtain⟨kI,hd2,qN⟩:=ou.mp hd;refine dB ⟨p,_,rfl,.inl (cU.of hp),rfl,_,rfl,dw (λ_=>?_) (λq=>by simp at q)⟩;refine⟨p,_,_,_,rfl,rfl,cU.of hp,eV (j:=1) rfl,q1,d',1,12,rfl,cU.of c1,_,rfl,?_⟩;cases he:iP d' 1 12 with
    |false=>
     rw[he,aa (by simp)]at hl;exact dZ (k0 _ sm hl)
    |true=>
     rw[hd,he,ah ⟨rfl,rfl⟩]at hl;obtain⟨xw,rQ,zN⟩:=ou.mp he;refine dB ⟨p,_,rfl,.inl (cU.of hp),rfl,_,rfl,dw (λ_=>?_) (λq=>by simp at q)⟩;exact⟨p,_,_,_,rfl,rfl,cU.of hp,eV (j:=1) rfl,q5 sg p q0 q1 [q1] w' d' _ sm hp c0 c1 qN zN hd2 rQ hl⟩
  |@cons q2 e' R9 Sk c2 hL=>
   dsimp only at hl;refine⟨p,_,rfl,.inl (cU.of hp),_,_,rfl,rfl,_,rfl,dw (λ_=>k0 _ sm hl) λq=>?_⟩;refine cJ (ak ?_) q;simp only[aX,aK];omega
 refine⟨_,(cW (dN (i:=2) nd (fQ (ql iG) (fP fX (pv 1) gQ (eY cZ)) (fJ (cT (dG T.Bo)))))
  (cW (dN (i:=3) nd (dF af3 hr (c_ (gD (iH (pv 2)) (fP fX (pv 1) (eY cZ) gQ) (pv 1)) (cT (dG T.yp)))))
  h2)),?_⟩
 have e1:fH (bv b) none (some 1)=bv (b.take 1):=Fe b 1;refine⟨(1:Int),rfl,a,_,rfl,hS,?_⟩;rw[e1];refine λp hp=>⟨(by show 1<=2^24;decide),λq hq=>?_⟩;have sp1:cR H (upd H p (.lst (bv (b.take 1)))):=cR.upd hp;have pq:p≠q:=fE cV hq;have Ci:=sp1.trans (cR.upd (o:=.lst [V.int 45]) hq);refine⟨_,_,iE (l:=bi (b.take 1)) (cU.of (by rw[eK pq,cV])),iE (l:=[45]) (cU.of cV),shaped_ints _,shaped_ints _,?_⟩;rw[mh,show([45]:List Int)=bi [45]from rfl,bi_dec];have hl:ze b=(match(if decide (b.take 1=[45])=true then b.drop 1 else b).splitOn 46 with
     |[w]=>if iP w 1 24=true then some (nP (decide (b.take 1=[45])) w [])else none
     |[w,d]=>if iP w 1 24=true/\iP d 1 12=true then some (nP (decide (b.take 1=[45])) w d)else none
     |_=>none):=rfl
 refine⟨_,rfl,?_⟩;cases hs:decide (b.take 1=[45])with
 |true=>
  rw[hs,ah rfl]at hl;have e2:fH (bv b) (some 1) none=bv (b.drop 1):=AM b 1;refine dZ ⟨(1:Int),rfl,a,_,rfl,Ci.seq hS,?_⟩;rw[e2];refine λr qL=>⟨r,_,46,rfl,cU.of cV,(by rw[aQ];omega),λp' H' qs sm nY hL=>?_⟩;have:=split_len (c:=46) (b.drop 1);rw[aQ]at this;exact q2 true p' qs _ H' ((Ci.trans (cR.upd qL)).trans sm) nY hL (Et _ _) (by omega) hl
 |false=>
  rw[hs,aa (by simp)]at hl;refine dB ⟨a,b,46,rfl,Ci.seq hS,(by omega),λp' H' qs sm nY hL=>?_⟩;have:=split_len (c:=46) b;exact q2 false p' qs _ H' (Ci.trans sm) nY hL (Et _ _) (by omega) hl
end
def m5(v1 v2 v3:V):List (Str×V):=(eG "end" v3 (eG "value" v2 (eG "name" v1 [])))
def fu{v1 v2 v3:V}:(m5 v1 v2 v3).lookup ("name":Str)=some v1:=by
 unfold m5;rw[eO,aa (),eO,aa (),eO,ah rfl]
def jy{v1 v2 v3:V}:(m5 v1 v2 v3).lookup ("value":Str)=some v2:=by
 unfold m5;rw[eO,aa (),eO,ah rfl]
def WJ{v1 v2 v3:V}:(m5 v1 v2 v3).lookup ("end":Str)=some v3:=by
 unfold m5;rw[eO,ah rfl]
structure lB(K:b6)(C:Addr):Prop where
 cl:lq K C
 fz:gz K C "name"
 jz:gz K C "value"
 Qk:gz K C "end"
def Ma(C:Addr)(H:Hp)(a:Addr)(v1 v2 v3:V):Prop:=∃dx,H a=some (.ins C dx (m5 v1 v2 v3))
abbrev Lo:Stmt:=inClass (top 90) 0
inductive r9(C:Addr)(vs:List V)(H:Hp)(Q:VK)(z3:XK):Prop|m(p dx:Addr)(v1 v2 v3:V)(_:vs=[.ref p,v1,v2,v3])(_:H p=some (.ins C dx []))(_:Q .dI (upd H p (.ins C dx (m5 v1 v2 v3))))
def Z4:dP ["self","name","value","end"] ["self","name","value","end"] (c9 Lo):=dW
def ac2{P:Program}{w:World}{K:b6}{mg:Str->Option Value}{base:Heap}{f C:Addr}(T:lB K C)(F:dM K "__init__" "Piece.__init__" Lo f fd):dJ P w K mg base cY 1 f fd ["self","name","value","end"] (r9 C):=by
 refine F.oK Z4 λc8 A outer s H vs Q E hr h=>?_;obtain⟨p,dx,v1,v2,v3,rfl,hp,k⟩:=h;refine⟨_,(cW (iC (pv 0) (pv 1) rfl) (cW (iC (pv 0) (pv 2) rfl) (cX (iC (pv 0) (pv 3) rfl)))),?_⟩;refine⟨p,C,dx,[],rfl,hp,T.cl,T.fz,(by show 0<1000;decide),?_⟩;refine⟨p,C,dx,_,rfl,cV,T.cl,T.jz,(by show 1<1000;decide),?_⟩;refine⟨p,C,dx,_,rfl,cV,T.cl,T.Qk,(by show 2<1000;decide),?_⟩;rw[jd,jd];exact k
def qi(v1 v2 v3:V):List (Str×V):=(eG "decimals" v3 (eG "size" v2 (eG "letter" v1 [])))
def lu{v1 v2 v3:V}:(qi v1 v2 v3).lookup ("letter":Str)=some v1:=by
 unfold qi;rw[eO,aa (),eO,aa (),eO,ah rfl]
def kK{v1 v2 v3:V}:(qi v1 v2 v3).lookup ("size":Str)=some v2:=by
 unfold qi;rw[eO,aa (),eO,ah rfl]
def xQ{v1 v2 v3:V}:(qi v1 v2 v3).lookup ("decimals":Str)=some v3:=by
 unfold qi;rw[eO,ah rfl]
structure sy(K:b6)(C:Addr):Prop where
 cl:lq K C
 oA:gz K C "letter"
 kj:gz K C "size"
 Az:gz K C "decimals"
def Bt(C:Addr)(H:Hp)(a:Addr)(v1 v2 v3:V):Prop:=∃dx,H a=some (.ins C dx (qi v1 v2 v3))
abbrev Mj:Stmt:=inClass (top 91) 0
inductive EL(C:Addr)(vs:List V)(H:Hp)(Q:VK)(z3:XK):Prop|m(p dx:Addr)(v1 v2 v3:V)(_:vs=[.ref p,v1,v2,v3])(_:H p=some (.ins C dx []))(_:Q .dI (upd H p (.ins C dx (qi v1 v2 v3))))
def ah3:dP ["self","letter","size","decimals"] ["self","letter","size","decimals"] (c9 Mj):=dW
def ak5{P:Program}{w:World}{K:b6}{mg:Str->Option Value}{base:Heap}{f C:Addr}(T:sy K C)(F:dM K "__init__" "Part.__init__" Mj f fd):dJ P w K mg base cY 1 f fd ["self","letter","size","decimals"] (EL C):=by
 refine F.oK ah3 λc8 A outer s H vs Q E hr h=>?_;obtain⟨p,dx,v1,v2,v3,rfl,hp,k⟩:=h;refine⟨_,(cW (iC (pv 0) (pv 1) rfl) (cW (iC (pv 0) (pv 2) rfl) (cX (iC (pv 0) (pv 3) rfl)))),?_⟩;refine⟨p,C,dx,[],rfl,hp,T.cl,T.oA,(by show 0<1000;decide),?_⟩;refine⟨p,C,dx,_,rfl,cV,T.cl,T.kj,(by show 1<1000;decide),?_⟩;refine⟨p,C,dx,_,rfl,cV,T.cl,T.Az,(by show 2<1000;decide),?_⟩;rw[jd,jd];exact k
inductive Pc where
 |text (b:cS)
 |sign (nm:Str) (c:UInt8)
 |exponent (c:UInt8)
 |word (nm:Str) (n:Nat)
 |part (l:UInt8) (n d:Nat)
 |passed (l:UInt8) (n d:Nat)
 |colour (k:Nat)
 |condition (z:Str) (v:Int)
def Pc.name:Pc->Str
 | .text _=>"text"
 | .sign nm _=>nm
 | .exponent _=>"exponent"
 | .word nm _=>nm
 | .part _ _ _=>"part"
 | .passed _ _ _=>"passed"
 | .colour _=>"colour"
 | .condition _ _=>"condition"
structure Cs where
 piece:Addr
 part:Addr
 condition:Addr
variable {C:Cs}
def Pc.val(C:Cs)(H0 H:Hp)(v:V):Pc->Prop
 | .text b=>∃q,v= .ref q/\H0 q=none/\H q=some (.lst (bv b))
 | .sign _ c=>v= .int c.toNat
 | .exponent c=>v= .int c.toNat
 | .word _ n=>v= .int n
 | .part l n d=>∃q,v= .ref q/\H0 q=none/\Bt C.part H q (.int l.toNat) (.int n) (.int d)
 | .passed l n d=>∃q,v= .ref q/\H0 q=none/\Bt C.part H q (.int l.toNat) (.int n) (.int d)
 | .colour k=>v= .int k
 | .condition z x=>∃q,v= .ref q/\H0 q=none/\xV C.condition H q (.str z) (.int x)
def ie(C:Cs)(H0 H:Hp)(a:Addr)(p:Pc)(e:Nat):Prop:=H0 a=none/\∃v,Ma C.piece H a (.str p.name) v (.int e)/\p.val C H0 H v
def Pc.ar0{H0 H1 H H':Hp}{v:V}{p:Pc}(f:∀a o,H0 a=none->H a=some o->H1 a=none)(s:∀a o,H0 a=none->H a=some o->H' a=some o)(h:p.val C H0 H v):p.val C H1 H' v:=by
 cases p with
 |text b=>obtain⟨q,e,n,h⟩:=h;exact⟨q,e,f _ _ n h,s _ _ n h⟩
 |sign nm c=>exact h
 |exponent c=>exact h
 |word nm n=>exact h
 |part l n d=>obtain⟨q,e,m,dx,h⟩:=h;exact⟨q,e,f _ _ m h,dx,s _ _ m h⟩
 |passed l n d=>obtain⟨q,e,m,dx,h⟩:=h;exact⟨q,e,f _ _ m h,dx,s _ _ m h⟩
 |colour k=>exact h
 |condition z x=>obtain⟨q,e,m,dx,h⟩:=h;exact⟨q,e,f _ _ m h,dx,s _ _ m h⟩
def ie.to{H0 H1 H H':Hp}{a:Addr}{p:Pc}{e:Nat}(f:∀a o,H0 a=none->H a=some o->H1 a=none)(s:∀a o,H0 a=none->H a=some o->H' a=some o)(h:ie C H0 H a p e):ie C H1 H' a p e:=by
 obtain⟨n,v,⟨dx,h1⟩,h2⟩:=h;exact⟨f _ _ n h1,v,⟨dx,s _ _ n h1⟩,Pc.ar0 f s h2⟩
def ie.same{H0 H H':Hp}(s:cR H H'){a:Addr}{p:Pc}{e:Nat}(h:ie C H0 H a p e):ie C H0 H' a p e:=h.to (λ_ _ z _=>z) λa o _ z=>s a o z
def ie.old{H0 H1 H:Hp}(s:cR H1 H0){a:Addr}{p:Pc}{e:Nat}(h:ie C H0 H a p e):ie C H1 H a p e:=h.to (λ_ _ z _=>s.free z) λ_ _ _ z=>z
def ie.off{H0 H:Hp}{a l:Addr}{p:Pc}{e:Nat}{o o':HO}(hl:H0 l=some o)(h:ie C H0 H a p e):ie C H0 (upd H l o') a p e:=h.to (λ_ _ z _=>z) λb u n z=>by
 rw[eK (λe=>by rw[e,hl]at n;cases n)];exact z
noncomputable def oW:List Str:=["<=",">=","<>","<",">","="]
def uH:List Str->cS->Option (Str×Int)
 |[],_=>none
 |z::r,b=>if jm (bi b) 0 z=true then(decimalIn (b.drop z.length)).map λv=>(z,v)else uH r b
def qy(b:cS):Option (Str×Int):=uH oW b
section
abbrev NH:Stmt:=top 78
def Ml:dP ["inner","comparison"] ["inner"] (c9 NH):=dW
inductive Mf(K:b6)(C:Addr)(vs:List V)(H:Hp)(Q:VK)(z3:XK):Prop|m(a b)(_:vs=[.ref a])(_:cU K H a (bv b))(_:b.length<=300)(_:(∀H',cR H H'->qy b=none->Q .dI H'))(_:∀H' c z v,cR H H'->qy b=some (z,v)->H c=none->xV C H' c (.str z) (.int v)->Q (.ref c) H')
def ab1{f C:Addr}(T:TX P w K mg)(DB:Own P w K mg base cY 2 "begins_with" ["codes","at","word"] (Eu K))(W7:Own P w K mg base cY 3 "read_limit" ["comparison","codes"] (Ng K C))
  (F:dM K "read_condition" "read_condition" NH f fd):dJ P w K mg base cY 4 f fd ["inner"] (Mf K C):=by
 refine F.oK Ml λc8 A outer s H vs Q E hr h=>?_;obtain⟨a,b,rfl,hS,hlen,k0,k1⟩:=h;have nd:=Ml.nd;obtain⟨Ju,V_,Jo⟩:=T.Wk;refine⟨_,(cW (kN cA rfl (au5 (i7 V_)) (fF (i:=1) nd) (cX (dO (iH (dF DB hr (c_ (pv 0) (c_ cZ (cT (pv 1)))))) (cX (dh (dF W7 hr (c_ (pv 1) (cT (fP fX (pv 0) (eY (eN Ak rfl T.fq () (cT (pv 1)))) gQ)))))) dX)))
  (cX (dh sH))),?_⟩
 refine⟨Ju,rfl,⟨_,Jo _⟩,an0 (K:=K) (a:=Ju) (xs:=oW.map V.str) (λi σ H'=>∃v:Option V,σ=[some (.ref a),v]/\cR H H'/\qy b=uH (oW.drop i) b) ⟨none,rfl,cR.refl H,rfl⟩ (λi σ H' _ _=>Jo _) ?_ ?_⟩
 .rintro i y σ H' hy ⟨v,rfl,sm,hc⟩;rw[aR]at hy;obtain⟨z,hz,rfl⟩:=aG.mp hy;have Sm:z.length<=2:=by
   have:∀z∈oW,z.length<=2:=();exact this z (bx hz)
  rw[gh hz]at hc;unfold uH at hc;refine⟨a,bi b,0,z,rfl,sm.seq hS,aP _,(),λH2 s2=>⟨_,rfl,dw (λq=>?_) (λq=>?_)⟩⟩
  .rw[ah q]at hc;have s3:=sm.trans s2;refine⟨z,rfl,(by show z.length<=2^24;lia),(z.length:Int),rfl,a,_,rfl,s3.seq hS,?_⟩;rw[AM];refine λr qL=>⟨z,r,_,rfl,cU.of cV,(by rw[aQ];lia),λH4 s4 hn=>?_,λH4 c v s4 hv hf hA=>?_⟩
   .rw[hn]at hc;exact k0 H4 ((s3.trans (cR.upd qL)).trans s4) hc
   .rw[hv]at hc;exact k1 H4 c z v ((s3.trans (cR.upd qL)).trans s4) hc ((s3.trans (cR.upd qL)).free hf) hA
  .rw[aa q]at hc;exact⟨_,rfl,sm.trans s2,hc⟩
 .rintro σ H' ⟨v,rfl,sm,hc⟩;exact k0 H' sm hc
abbrev NQ:Stmt:=top 93
def Ms:dP ["picture","at","closing","end"] ["picture","at","closing"] (c9 NQ):=dW
def upTo(b:cS)(i:Nat)(c:UInt8):Nat:=((b.drop i).takeWhile λx=>x != c).length
inductive EN(K:b6)(CN:Addr)(vs:List V)(H:Hp)(Q:VK)(E:XK):Prop|m(a b)(i:Nat)(c:UInt8)(_:vs=[.ref a,.int i,.int c.toNat])(_:cU K H a (bv b))(_:i<b.length)(_:(i+1+upTo b (i+1) c=b.length->E (.ref CN) none H))(_:(i+1+upTo b (i+1) c<b.length->Q (.int ((i+1+upTo b (i+1) c:Nat):Int)) H))
def vN(b:cS)(i:Nat)(c:UInt8)(h:i<=b.length):i+upTo b i c<=b.length:=by
 unfold upTo;have:=((b.drop i).takeWhile_prefix λx=>x != c).length_le;rw[aQ]at this;omega
def ac0(T:TX P w K mg)(j4:OwnCls "NoPicture" CN bm newId mg base)(FB:ExcBaseFacts B newId lE bm)(F:dM K "closing_place" "closing_place" NQ f fd):dJ P w K mg base (fO P w CN) 1 f fd ["picture","at","closing"] (EN K CN):=by
 refine F.oX Ms λc8 A outer s H vs Q E hr h xk hp=>?_;obtain⟨a,b,i,c,rfl,hS,hi,k0,k1⟩:=h;have nd:=Ms.nd;refine⟨_,(cW (dN (i:=3) nd (dm fL (pv 1) cZ))
  (cW (r_ hp (PW.pt (nh (dj jg (pv 3) (eN fD rfl T.fq () (cT (pv 0)))) (m6 (dj wu (fM fW (pv 0) (pv 3) (λ_ _=>rfl)) (pv 2))))) (cX (mz (i:=3) nd rfl (Or.inl rfl) cZ qm)))
  (cW (dO (dj dU (pv 3) (eN fD rfl T.fq () (cT (pv 0)))) (cX (mZ j4 FB rfl xk rfl (cT eH))) dX)
  (cX (dh (pv 3)))))),?_⟩
 refine⟨_,_,rfl,rfl,?_⟩;refine⟨λm σ H'=>∃j:Nat,σ=[some (.ref a),some (.int i),some (.int c.toNat),some (.int j)]/\H=H'/\j<=b.length/\j+upTo b j c=i+1+upTo b (i+1) c/\m=b.length-j,⟨_,i+1,rfl,rfl,hi,rfl,rfl⟩,?_⟩;rintro m σ H' ⟨j,rfl,rfl,hj,hd,rfl⟩;have fin:upTo b j c=0->(if decide (V.int (j:Int)=V.int (((bv b).length:Nat):Int))=true then(1<=sizeLine/\E (.ref CN) none H)else Q (.int j) H):=λz=>by
  rw[z,Nat.add_zero]at hd;refine dw (λq=>⟨(),k0 ?_⟩) λq=>?_
  .have:=V.int.inj (aj q);rw[eB]at this;lia
  .have eF:j<b.length:=by
    rcases Nat.lt_or_ge j b.length with h|h
    .exact h
    .exact cJ (ak (by rw[eB,show j=b.length by lia])) q
   rw[<-hd]at k1;exact k1 eF
 refine⟨a,_,rfl,.inl hS,_,_,rfl,rfl,_,rfl,dw (λq=>?_) (λq=>?_)⟩
 .have eF:j<b.length:=by
   have:=aj q;rw[eB]at this;lia
  obtain⟨x,hx⟩:∃x,b[j]? =some x:=⟨_,br eF⟩;have ed:=gh hx;refine⟨a,_,_,_,rfl,rfl,hS,eV (qt hx),rfl,_,rfl,dw (λq=>?_) (λq=>?_)⟩
  .have dR:x≠c:=λe=>by
    rw[e]at q;simp at q
   refine⟨_,λσ' H' z=>z,_,rfl,_,_,rfl,rfl,b.length-(j+1),(),j+1,rfl,rfl,eF,?_,rfl⟩;rw[<-hd];unfold upTo;rw[ed,aF,ah (by simpa using dR),aK];lia
  .have he:x=c:=by
    by_cases h:x=c
    .exact h
    .exact cJ (by simp[iu]at h ⊢;lia) q
   have z:upTo b j c=0:=by
    unfold upTo;rw[ed,aF,aa (by simp[he])];rfl
   exact⟨a,_,rfl,.inl hS,rfl,_,rfl,dw (λq=>by have:=fin z;rw[ah q]at this;exact this) λq=>(by have:=fin z;rw[aa q]at this;exact this)⟩
 .have lW:b.length<=j:=by
   have:¬(j:Int)<((bv b).length:Int):=λz=>q (ak z);rw[eB]at this;lia
  have z:upTo b j c=0:=by
   unfold upTo;rw[bM lW];rfl
  exact dB ⟨a,_,rfl,.inl hS,rfl,_,rfl,dw (λq=>by have:=fin z;rw[ah q]at this;exact this) λq=>(by have:=fin z;rw[aa q]at this;exact this)⟩
end
open Sv68 (isDigit lower tenths)
def f_(c:UInt8):Nat:=(gm c.toNat).toNat
def FP(c:UInt8):((f_ c:Nat):Int)=gm c.toNat:=Int.toNat_of_nonneg (LY _).1
section
abbrev PZ:Stmt:=top 94
def Nz:dP ["picture","at","end"] ["picture","at"] (c9 PZ):=dW
def o9(c d:UInt8)(r:cS):cS:=if c=95 then [32]else r.take (f_ d)
inductive Fo(K:b6)(C:Cs)(CN:Addr)(vs:List V)(H:Hp)(Q:VK)(E:XK):Prop|m(a b)(i:Nat)(c:UInt8)(_:vs=[.ref a,.int i])(_:cU K H a (bv b))(_:b[i]? =some c)(_:(i+1=b.length->∀H',cR H H'->E (.ref CN) none H'))(_:(∀d a' H',b[i+1]? =some d->cR H H'->ie C H H' a' (.text (o9 c d (b.drop (i+1)))) (i+1+f_ d)->Q (.ref a') H'))
def aj5(T:TX P w K mg)(j4:OwnCls "NoPicture" CN bm newId mg base)(FB:ExcBaseFacts B newId lE bm)(Di:Own P w K mg base cY 1 "character_size" ["first"] yh)
  (m9:jD P w K mg base cY 1 C.piece "Piece" ["self","name","value","end"] (r9 C.piece))(F:dM K "read_character_behind" "read_character_behind" PZ f fd):dJ P w K mg base (fO P w CN) 3 f fd ["picture","at"] (Fo K C CN):=by
 refine F.oX Nz λc8 A outer s H vs Q E hr h xk hp=>?_;obtain⟨a,b,i,c,rfl,hS,hc,k0,k1⟩:=h;have nd:=Nz.nd;have gv:=(aD.mp hc).1;refine⟨_,(cW (dO (dj dU (dm fL (pv 1) cZ) (eN fD rfl T.fq () (cT (pv 0)))) (cX (mZ j4 FB rfl xk rfl (cT eH))) dX)
  (cW (dN (i:=2) nd (dm fL (dm fL (pv 1) cZ) (dF Di hr (cT (fM fW (pv 0) (dm fL (pv 1) cZ) (λ_ _=>rfl))))))
  (cX (dh (iQ m9 hr (c_ eH (c_ (gD (dj dU (fM fW (pv 0) (pv 1) (λ_ _=>rfl)) (dG T.JI)) (fJ (cT (dG T.Bp))) (fP fX (pv 0) (eY (dm fL (pv 1) cZ)) (eY (pv 2)))) (cT (pv 2))))))))),?_⟩
 refine⟨_,_,rfl,rfl,a,_,rfl,.inl hS,rfl,_,rfl,dw (λq=>⟨(),k0 ?_ H (cR.refl H)⟩) λq=>?_⟩
 .have:=V.int.inj (aj q);rw[eB]at this;lia
 .have eF:i+1<b.length:=by
   rcases Nat.lt_or_ge (i+1) b.length with h|h
   .exact h
   .exact cJ (ak (by rw[eB,show b.length=i+1 by lia];rfl)) q
  obtain⟨d,hd⟩:∃d,b[i+1]? =some d:=⟨_,br eF⟩;have k1:=k1 d;have ad:lY (bv b) ((i:Int)+1)=some (V.int d.toNat):=at_of (j:=i+1) () (qt hd);refine⟨_,_,rfl,rfl,_,_,rfl,rfl,a,_,_,_,rfl,rfl,hS,ad,_,rfl,_,_,rfl,rfl,?_⟩;have ee:(i:Int)+1+gm d.toNat=((i+1+f_ d:Nat):Int):=by
   have:=FP d;lia
  have fin:∀(q:Addr) (H3:Hp),H q=none->cR H H3->H3 q=some (.lst (bv (o9 c d (b.drop (i+1)))))->∀x dx:Addr,H3 x=none->H3 dx=none->dx≠x->
    r9 C.piece (.ref x::([.str "text",.ref q,.int ((i:Int)+1+gm d.toNat)]++[])) (upd (upd H3 dx (.own x)) x (.ins C.piece dx [])) (λv H2=>v= .dI/\Q (.ref x) H2) E0:=by
   intro q H3 pI s4 hq x dx hx eU dR;refine⟨x,dx,_,_,_,rfl,cV,rfl,k1 x _ hd (s4.ins hx eU) ⟨s4.free hx,_,⟨dx,?_⟩,q,rfl,pI,?_⟩⟩
   .rw[cV,<-ee];rfl
   .exact(cR.refl H3).ins hx eU _ _ hq
  refine⟨a,_,_,_,rfl,rfl,hS,eV (qt hc),rfl,_,rfl,dw (λq=>?_) (λq=>?_)⟩
  .have e:c=95:=iu.mpr (V.int.inj (aj q));refine⟨(),λp hp=>(λx dx hx eU dR=>fin p _ hp (cR.upd hp) ?_ x dx hx eU dR)⟩;rw[cV];unfold o9;rw[ah e];rfl
  .have e:c≠95:=λe=>q (by rw[e];rfl);refine⟨_,_,rfl,rfl,(((i+1:Nat)):Int),rfl,((i+1+f_ d:Nat):Int),?_,a,_,rfl,hS,?_⟩
   .rw[<-ee]
   .rw[rG];refine λp hp=>(λx dx hx eU dR=>fin p _ hp (cR.upd hp) ?_ x dx hx eU dR);rw[cV];unfold o9;rw[aa e,show i+1+f_ d-(i+1)=f_ d by lia]
abbrev P9:Stmt:=top 97
def NF:dP ["picture","at","end"] ["picture","at"] (c9 P9):=dW
inductive Nq(K:b6)(vs:List V)(H:Hp)(Q:VK)(z3:XK):Prop|m(a b)(i:Nat)(_:vs=[.ref a,.int i])(_:cU K H a (bv b))(_:∀H',cR H H'->Q (.int (tenths (b.drop i))) H')
def head_take(b:cS)(c:UInt8):b.head? =some c↔b.take 1=[c]:=by
 cases b<;>simp
def ak3(T:TX P w K mg)(F:dM K "count_decimals" "count_decimals" P9 f fd):dJ P w K mg base cY 1 f fd ["picture","at"] (Nq K):=by
 refine F.oK NF λc8 A outer s H vs Q E hr h=>?_;obtain⟨a,b,i,rfl,hS,k⟩:=h;have nd:=NF.nd;have iG:=hr.units;refine⟨_,(cW (dO (dj (Fy iG) (fP fX (pv 0) (eY (pv 1)) (eY (dm fL (pv 1) cZ))) (fJ (cT (dG T.yp)))) (cX (dh cZ)) dX)
  (cW (dN (i:=2) nd (dm fL (pv 1) cZ))
  (cW (r_ cA (PW.pt (nh (dj iJ (pv 2) (dm fL (pv 1) (dG T.T4))) (m6 (dj (ql iG) (fP fX (pv 0) (eY (pv 2)) (eY (dm fL (pv 2) cZ))) (fJ (cT (dG T.sJ))))))) (cX (mz (i:=2) nd rfl (Or.inl rfl) cZ qm)))
  (cX (dh (dm iI (dm iI (pv 2) (pv 1)) cZ)))))),?_⟩
 have ec:∀j:Nat,fH (bv b) (some (j:Int)) (some ((j:Int)+1))=bv ((b.drop j).take 1):=λj=>by
  have:=rG b j (j+1);rw[show j+1-j=1 by lia]at this;exact this
 unfold tenths at k;refine⟨(i:Int),rfl,_,_,rfl,rfl,(i:Int)+1,rfl,a,_,rfl,hS,?_⟩;rw[ec i];refine λp hp=>⟨(),λq hq=>?_⟩;have pq:p≠q:=fE cV hq;have s1:=(cR.upd (o:=.lst (bv ((b.drop i).take 1))) hp).trans (cR.upd (o:=.lst [V.int 46]) hq);refine⟨_,_,iE (l:=bi ((b.drop i).take 1)) (cU.of (by rw[eK pq,cV])),iE (l:=[46]) (cU.of cV),shaped_ints _,shaped_ints _,?_⟩;rw[mh,show([46]:List Int)=bi [46]from rfl,bi_dec];refine⟨_,rfl,dw (λz=>?_) (λz=>?_)⟩
 .have:¬(b.drop i).head? =some 46:=by
   rw[head_take];simpa using z
  rw[aa this]at k;exact k _ s1
 .have hh:(b.drop i).head? =some 46:=by
   rw[head_take];simpa using z
  rw[ah hh,bz]at k;refine⟨_,_,rfl,rfl,?_⟩;have aN1:∀j:Nat,(b.drop j).head?≠some 48->((b.drop j).takeWhile λc=>c==48).length=0:=λj h=>by
   cases e:b.drop j with
   |nil=>rfl
   |cons x r=>
    rw[e]at h;rw[aF,aa (by simpa using h)];rfl
  refine⟨λm σ H'=>∃n:Nat,σ=[some (.ref a),some (.int i),some (.int ((i+1+n:Nat):Int))]/\cR H H'/\n<=3/\min 3 ((b.drop (i+1)).takeWhile λc=>c==48).length=n+min (3-n) ((b.drop (i+1+n)).takeWhile λc=>c==48).length/\m=3-n,
   ⟨_,0,rfl,s1,aP _,by simp,rfl⟩,?_⟩
  rintro m σ H' ⟨n,rfl,sm,hn,hT,rfl⟩;refine⟨_,_,rfl,rfl,_,_,rfl,rfl,_,rfl,dw (λz=>?_) (λz=>?_)⟩
  .have SD:n<3:=by
    have:=aj z;lia
   refine⟨((i+1+n:Nat):Int),rfl,_,_,rfl,rfl,((i+1+n:Nat):Int)+1,rfl,a,_,rfl,sm.seq hS,?_⟩;rw[ec (i+1+n)];refine λp hp=>⟨(),λq hq=>?_⟩;have pq:p≠q:=fE cV hq;have s2:=sm.trans ((cR.upd (o:=.lst (bv ((b.drop (i+1+n)).take 1))) hp).trans (cR.upd (o:=.lst [V.int 48]) hq));refine⟨_,_,iE (l:=bi ((b.drop (i+1+n)).take 1)) (cU.of (by rw[eK pq,cV])),iE (l:=[48]) (cU.of cV),shaped_ints _,shaped_ints _,?_⟩;rw[mh,show([48]:List Int)=bi [48]from rfl,bi_dec];refine⟨_,rfl,dw (λz=>?_) (λz=>?_)⟩
   .have xC:(b.drop (i+1+n)).head? =some 48:=by
     rw[head_take];exact aj z
    refine⟨_,λσ' H' z=>z,_,rfl,_,_,rfl,rfl,3-(n+1),(),n+1,rfl,s2,(),?_,rfl⟩;rw[hT];cases e:b.drop (i+1+n)with
    |nil=>
     rw[e]at xC;cases xC
    |cons x r=>
     rw[e]at xC;have ex:x=48:=aH xC;have er:b.drop (i+1+(n+1))=r:=by
      have:=bz (i:=1) (j:=i+1+n) (l:=b);rw[show i+1+(n+1)=i+1+n+1 by lia,<-this,e];rfl
     rw[er,aF,ah (by simp[ex]),aK];lia
   .have xC:(b.drop (i+1+n)).head?≠some 48:=by
     rw[Ne,head_take];exact λe=>z (ak e)
    rw[aN1 _ xC,Nat.min_zero,Nat.add_zero]at hT;refine⟨_,_,rfl,rfl,_,_,rfl,rfl,?_⟩;have:=k _ s2;rw[hT]at this;show Q (V.int (((i+1+n:Nat):Int)-(i:Int)-1)) _;rw[show((i+1+n:Nat):Int)-(i:Int)-1=(n:Int) by lia];exact this
  .have SD:n=3:=by
    rcases Nat.lt_or_ge n 3 with h|h
    .exact cJ (ak ()) z
    .lia
   subst SD;rw[Nat.sub_self,Nat.zero_min,Nat.add_zero]at hT;refine dB ⟨_,_,rfl,rfl,_,_,rfl,rfl,?_⟩;have:=k _ sm;rw[hT]at this;show Q (V.int (((i+1+3:Nat):Int)-(i:Int)-1)) _;rw[show((i+1+3:Nat):Int)-(i:Int)-1=((3:Nat):Int) by lia];exact this
abbrev Bw:Stmt:=top 96
def Mp:dP ["picture","name","letter","size","end","decimals","behind"] ["picture","name","letter","size","end"] (c9 Bw):=dW
def g_(l:UInt8)(q:cS):Nat:=if l=115 then tenths q else 0
def more(d:Nat):Nat:=if d=0 then 0 else d+1
inductive EM(K:b6)(C:Cs)(vs:List V)(H:Hp)(Q:VK)(z3:XK):Prop|m(a b)(nm:Str)(l:UInt8)(n e:Nat)(_:vs=[.ref a,.str nm,.int l.toNat,.int n,.int e])(_:cU K H a (bv b))(_:∀a' q H',cR H H'->H a'=none->H q=none->Ma C.piece H' a' (.str nm) (.ref q) (.int ((e+more (g_ l (b.drop e)):Nat):Int))->Bt C.part H' q (.int l.toNat) (.int n) (.int (g_ l (b.drop e):Nat))->Q (.ref a') H')
def ab5(T:TX P w K mg)(Vb:Own P w K mg base cY 1 "count_decimals" ["picture","at"] (Nq K))(m9:jD P w K mg base cY 1 C.piece "Piece" ["self","name","value","end"] (r9 C.piece))
  (aD1:jD P w K mg base cY 1 C.part "Part" ["self","letter","size","decimals"] (EL C.part))(F:dM K "make_part" "make_part" Bw f fd):dJ P w K mg base cY 3 f fd ["picture","name","letter","size","end"] (EM K C):=by
 refine F.oK Mp λc8 A outer s H vs Q E hr h=>?_;obtain⟨a,b,nm,l,n,e,rfl,hS,k⟩:=h;have nd:=Mp.nd;obtain⟨t1,h1,q1⟩:∃t1,gb (gJ cY P w K mg base ["picture","name","letter","size","end","decimals","behind"] "make_part" (c9 Bw) f c8 A outer s H E).jV ((gH Bw).drop 1) t1/\
   ∀(d:Nat) (H2:Hp),g_ l (b.drop e)=d->cR H H2->t1 {nx:=λ_ H'=>Q .dI H',rt:=Q} [some (.ref a),some (.str nm),some (.int l.toNat),some (.int n),some (.int e),some (.int d),none] H2:=by
  refine⟨_,(cW (dN (i:=6) nd (gD (dj iV (pv 5) cZ) (dm fL (dm fL (pv 4) cZ) (pv 5)) (pv 4)))
  (cX (dh (iQ m9 hr (c_ (pv 1) (c_ (iQ aD1 hr (c_ (pv 2) (c_ (pv 3) (cT (pv 5))))) (cT (pv 6)))))))),?_⟩
  intro d H2 ed sm;rw[ed]at k;have fin:∀v:Int,v=((e+more d:Nat):Int)->∀x dx:Addr,H2 x=none->H2 dx=none->dx≠x->EL C.part (.ref x::([.int l.toNat,.int n,.int d]++[])) (upd (upd H2 dx (.own x)) x (.ins C.part dx [])) (λu H3=>u= .dI/\
    ∀x' i_:Addr,H3 x'=none->H3 i_=none->i_≠x'->r9 C.piece (.ref x'::([.str nm,.ref x,.int v]++[])) (upd (upd H3 i_ (.own x')) x' (.ins C.piece i_ [])) (λv H4=>v= .dI/\Q (.ref x') H4) E0) E0:=by
   intro v hv x dx hx eU dR;refine⟨x,dx,_,_,_,rfl,cV,rfl,λx' i_ Hv RK aS8=>?_⟩;refine⟨x',i_,_,_,_,rfl,cV,rfl,k x' x _ (((sm.ins hx eU)).ins Hv RK) ((sm.ins hx eU).free Hv) (sm.free hx) ⟨i_,?_⟩ ⟨dx,?_⟩⟩
   .rw[cV,hv]
   .exact(cR.refl _).ins Hv RK _ _ cV
  refine⟨_,_,rfl,rfl,_,rfl,dw (λz=>?_) (λz=>?_)⟩
  .have hd:0<d:=by
    have:=aj z;lia
   refine⟨_,_,rfl,rfl,_,_,rfl,rfl,λx dx hx eU dR=>?_⟩;have:=fin ((e:Int)+1+d) (by unfold more;rw[aa ()];lia) x dx hx eU dR;obtain⟨p',i_,y1,y2,y3,ey,hy,ky,kz⟩:=this;exact⟨p',i_,y1,y2,y3,ey,hy,ky,kz⟩
  .have hd:d=0:=by
    rcases Nat.eq_zero_or_pos d with h|h
    .exact h
    .exact cJ (ak ()) z
   refine λx dx hx eU dR=>?_;have:=fin (e:Int) (by unfold more;rw[ah hd];lia) x dx hx eU dR;obtain⟨p',i_,y1,y2,y3,ey,hy,ky,kz⟩:=this;exact⟨p',i_,y1,y2,y3,ey,hy,ky,kz⟩
 refine⟨_,(cW (dN (i:=5) nd (gD (dj dU (pv 2) (dG T.x9)) (dF Vb hr (c_ (pv 0) (cT (pv 4)))) cZ))
  h1),?_⟩
 refine⟨rfl,_,rfl,dw (λz=>?_) (λz=>?_)⟩
 .have el:l=115:=iu.mpr (V.int.inj (aj z));exact⟨a,b,e,rfl,hS,λH2 s2=>q1 _ H2 (by unfold g_;rw[ah el]) s2⟩
 .have el:l≠115:=λh=>z (by rw[h];rfl);exact q1 0 H (by unfold g_;rw[aa el]) (cR.refl H)
end
section
abbrev BJ:Stmt:=top 95
def Nu:dP ["picture","at","letter","end"] ["picture","at"] (c9 BJ):=dW
noncomputable def Gm:List (Key×V):=[(.inl 121,.int 4),(.inl 109,.int 5),(.inl 100,.int 4),(.inl 104,.int 2),(.inl 115,.int 2)]
def longest(c:UInt8):Option Nat:=if c=121 then some 4 else if c=109 then some 5 else if c=100 then some 4 else if c=104 then some 2 else if c=115 then some 2 else none
def KR(c:UInt8):ku Gm (.inl (c.toNat:Int))=(longest c).map (λ(n:Nat)=>V.int (n:Int)):=by
 have key:∀k:Fin 256,ku Gm (.inl (k.val:Int))=(longest (UInt8.ofNat k.val)).map (λ(n:Nat)=>V.int (n:Int)):=();have:=key ⟨c.toNat,c.toNat_lt⟩;simp only[cE]at this;exact this
def fG(b:cS)(i:Nat)(l:UInt8):Nat:=((b.drop i).takeWhile λx=>lower x==l).length
inductive Nf(K:b6)(C:Cs)(CN:Addr)(vs:List V)(H:Hp)(Q:VK)(E:XK):Prop|m(a b)(i:Nat)(c:UInt8)(m:Nat)(_:vs=[.ref a,.int i])(_:cU K H a (bv b))(_:b[i]? =some c)(_:longest (lower c)=some m)(_:(m<fG b i (lower c)->E (.ref CN) none H))(_:(fG b i (lower c)<=m->∀a' H',cR H H'->ie C H H' a' (.part (lower c) (fG b i (lower c)) (g_ (lower c) (b.drop (i+fG b i (lower c))))) (i+fG b i (lower c)+more (g_ (lower c) (b.drop (i+fG b i (lower c)))))->Q (.ref a') H'))
def aj2(T:TX P w K mg)(j4:OwnCls "NoPicture" CN bm newId mg base)(FB:ExcBaseFacts B newId lE bm)(sA:Own P w K mg base cY 1 "small" ["code"] yg)
  (DS:Own P w K mg base cY 3 "make_part" ["picture","name","letter","size","end"] (EM K C))(F:dM K "read_row" "read_row" BJ f fd):dJ P w K mg base (fO P w CN) 4 f fd ["picture","at"] (Nf K C CN):=by
 refine F.oX Nu λc8 A outer s H vs Q E hr h xk hp=>?_;obtain⟨a,b,i,c,m,rfl,hS,hc,hm,k0,k1⟩:=h;have nd:=Nu.nd;obtain⟨Jj,Dr,xT⟩:=T.Ji;have gv:=(aD.mp hc).1;obtain⟨t3,h3,q3⟩:∃t3,gb (gJ (fO P w CN) P w K mg base ["picture","at","letter","end"] "read_row" (c9 BJ) f c8 A outer s H E) ((gH BJ).drop 3) t3/\
   ∀j:Nat,j=i+fG b i (lower c)->t3 {nx:=λ_ H'=>Q .dI H',rt:=Q} [some (.ref a),some (.int i),some (.int (lower c).toNat),some (.int j)] H:=by
  refine⟨_,(cW (dO (dj iV (dm iI (pv 3) (pv 1)) (EU (i7 Dr) (pv 2) (λ_ _=>rfl))) (cX (mZ j4 FB rfl xk rfl (cT eH))) dX)
  (cX (dh (dF DS hr (c_ (pv 0) (c_ eH (c_ (pv 2) (c_ (dm iI (pv 3) (pv 1)) (cT (pv 3)))))))))),?_⟩
  intro j ej;have en:(j:Int)-(i:Int)=(fG b i (lower c):Int):=();refine⟨_,_,rfl,rfl,_,_,.inl ((lower c).toNat:Int),_,rfl,xT,rfl,(KR (lower c)).trans (by rw[hm];rfl),_,_,rfl,rfl,_,rfl,dw (λq=>⟨(),k0 ?_⟩) λq=>?_⟩
  .have:=aj q;lia
  .have hle:fG b i (lower c)<=m:=by
    rcases Nat.lt_or_ge m (fG b i (lower c))with h|h
    .exact cJ (ak ()) q
    .exact h
   refine⟨_,_,rfl,rfl,a,b,"part",lower c,fG b i (lower c),j,?_,hS,λa' q' H' sm n1 n2 hP hA=>?_⟩
   .rw[<-en];rfl
   .subst ej;exact k1 hle a' H' sm ⟨n1,_,hP,q',rfl,n2,hA⟩
 refine⟨_,(cW (dN (i:=2) nd (dF sA hr (cT (fM fW (pv 0) (pv 1) (λ_ _=>rfl)))))
  (cW (dN (i:=3) nd (dm fL (pv 1) cZ))
  (cW (r_ hp (PW.pt (nh (dj jg (pv 3) (eN fD rfl T.fq () (cT (pv 0)))) (m6 (dj dU (dF sA hr (cT (fM fW (pv 0) (pv 3) (λ_ _=>rfl)))) (pv 2))))) (cX (mz (i:=3) nd rfl (Or.inl rfl) cZ qm)))
  h3))),?_⟩
 refine⟨a,_,_,_,rfl,rfl,hS,eV (qt hc),_,rfl,?_⟩;rw[rZ];refine⟨_,_,rfl,rfl,?_⟩;have e1:fG b i (lower c)=1+fG b (i+1) (lower c):=by
  unfold fG;rw[gh hc,aF,ah (by simp),aK];lia
 refine⟨λmm σ H'=>∃j:Nat,σ=[some (.ref a),some (.int i),some (.int (lower c).toNat),some (.int j)]/\H=H'/\j<=b.length/\j+fG b j (lower c)=i+fG b i (lower c)/\mm=b.length-j,⟨_,i+1,rfl,rfl,gv,(),rfl⟩,?_⟩;rintro mm σ H' ⟨j,rfl,rfl,hj,hd,rfl⟩;have stop:fG b j (lower c)=0->j=i+fG b i (lower c):=λz=>();refine⟨a,_,rfl,.inl hS,_,_,rfl,rfl,_,rfl,dw (λq=>?_) (λq=>?_)⟩
 .have eF:j<b.length:=by
   have:=aj q;rw[eB]at this;lia
  obtain⟨x,hx⟩:∃x,b[j]? =some x:=⟨_,br eF⟩;have ed:=gh hx;refine⟨a,_,_,_,rfl,rfl,hS,eV (qt hx),_,rfl,rfl,_,rfl,?_⟩;rw[rZ];refine dw (λq=>?_) (λq=>?_)
  .have he:lower x=lower c:=iu.mpr (V.int.inj (aj q));refine⟨_,λσ' H' z=>z,_,rfl,_,_,rfl,rfl,b.length-(j+1),(),j+1,rfl,rfl,eF,?_,rfl⟩;rw[<-hd];unfold fG;rw[ed,aF,ah (by simpa using he),aK];lia
  .have dR:¬lower x=lower c:=λe=>q (by rw[e];exact ak rfl);refine q3 j (stop ?_);unfold fG;rw[ed,aF,aa (by simpa using dR)];rfl
 .have lW:b.length<=j:=by
   have:¬(j:Int)<((bv b).length:Int):=λz=>q (ak z);rw[eB]at this;lia
  refine dB (q3 j (stop ?_));unfold fG;rw[bM lW];rfl
abbrev QZ:Stmt:=top 100
def aE9:dP ["inner"] ["inner"] (c9 QZ):=dW
def oZ:cS->Bool
 |[]=>false
 |c::r=>decide ((c::r).length<=9)&&((c==104||(c==109||c==115))&&(c::r).all λx=>x==c)
inductive OL(K:b6)(vs:List V)(H:Hp)(Q:VK)(z3:XK):Prop|m(a b)(_:vs=[.ref a])(_:cU K H a (bv b))(_:∀H',cR H H'->Q (.bl (oZ b)) H')
def MX(b:cS):(bv b).all jO=true:=by
 unfold bv;rw[List.all_map];exact bg.mpr λ_ _=>rfl
theorem Km{α:Type}(p:α->Bool):∀l:List α,(l.countP p=l.length)↔l.all p=true
 |[]=>by simp
 |a::l=>by
  rw[List.countP_cons,bu];have:=Km p l;have h2:=List.countP_le_length (p:=p) (l:=l);cases h:p a with
  |true=>simp[this]
  |false=>
   simp;lia
def ax2(T:TX P w K mg)(F:dM K "is_passed_time" "is_passed_time" QZ f fd):dJ P w K mg base cY 1 f fd ["inner"] (OL K):=by
 refine F.oK aE9 λc8 A outer s H vs Q E hr h=>?_;obtain⟨a,b,rfl,hS,k⟩:=h;refine⟨_,(cW (dO (PW.pt (mF (uB (Ew iJ iJ cZ (eN fD rfl T.fq () (cT (pv 0))) (dG T.Ub))) (oE (dj qV (fM fW (pv 0) cZ (λ_ _=>rfl)) (Fx (c_ (dG T.AL) (c_ (dG T.En) (cT (dG T.x9))))) (by with_unfolding_all rfl))))) (cX (dh mG)) dX)
  (cX (dh (fQ dU (gk b7 cN cO qX (pv 0) (cT (fM fW (pv 0) cZ (λ_ _=>rfl)))) (eN fD rfl T.fq () (cT (pv 0))))))),?_⟩
 cases b with
 |nil=>exact⟨a,_,rfl,.inl hS,_,_,rfl,rfl,_,rfl,dB ⟨_,rfl,dZ (dZ (k H (cR.refl H)))⟩⟩
 |cons c r=>
  have k:∀H',cR H H'->Q (.bl (decide ((c::r).length<=9)&&((c==104||(c==109||c==115))&&(c::r).all λx=>x==c))) H':=k;refine⟨a,_,rfl,.inl hS,_,_,rfl,rfl,_,rfl,dw (λ_=>?_) (λq=>cJ (ak (by rw[eB,aK];lia)) q)⟩;refine⟨_,_,rfl,rfl,_,rfl,dw (λq=>?_) (λq=>?_)⟩
  .have hl:¬(c::r).length<=9:=by
    intro z;rw[ak (by rw[eB];lia)]at q;cases q
   rw[ao hl,aZ]at k;exact dZ (k H (cR.refl H))
  .have hl:(c::r).length<=9:=by
    by_cases z:(c::r).length<=9
    .exact z
    .exact(q (by rw[ao (by rw[eB];lia)];rfl)).elim
   rw[ak hl,aY]at k;have a0:lY (bv (c::r)) 0=some (V.int c.toNat):=eV (j:=0) rfl;refine⟨a,_,_,_,rfl,rfl,hS,a0,(by show 3<=2^24;decide),λp hp=>⟨p,_,rfl,.inr (e_.of cV),rfl,rfl,_,rfl,?_⟩⟩;have su:=cR.upd (o:=.tup [.int 104,.int 109,.int 115]) hp;have ein:inV (V.int c.toNat) [.int 104,.int 109,.int 115]=(c==104||(c==109||c==115)):=by
    have key:∀k:Fin 256,inV (V.int k.val) [.int 104,.int 109,.int 115]=(UInt8.ofNat k.val==104||(UInt8.ofNat k.val==109||UInt8.ofNat k.val==115)):=();have:=key ⟨c.toNat,c.toNat_lt⟩;simp only[cE]at this;exact this
   show if(!inV (V.int c.toNat) [.int 104,.int 109,.int 115])=true then _ else _;rw[ein];cases hh:(c==104||(c==109||c==115))with
   |false=>
    rw[hh,aZ]at k;exact dZ (k _ su)
   |true=>
    rw[hh,aY]at k;refine dB ?_;refine⟨.inl ⟨rfl,_,su.seq hS⟩,a,_,_,_,rfl,rfl,su.seq hS,a0,a,_,_,rfl,rfl,su.seq hS,rfl,MX _,a,_,rfl,.inl (su.seq hS),rfl,?_⟩;have e:decide (V.int (((bv (c::r)).countP λz=>iW z (V.int c.toNat):Nat):Int)=V.int (((bv (c::r)).length:Nat):Int))=(c::r).all λx=>x==c:=by
     rw[bC,aq];have h1:(V.int (((bv (c::r)).countP λz=>iW z (V.int c.toNat):Nat):Int)=V.int (((bv (c::r)).length:Nat):Int))↔(bv (c::r)).countP (λz=>iW z (V.int c.toNat))=(bv (c::r)).length:=⟨λz=>Int.ofNat_inj.mp (V.int.inj z),λz=>by rw[z]⟩;rw[h1,Km];unfold bv bi;rw[List.all_map,List.all_map];have h2:((λz=>iW z (V.int (c.toNat:Int))) ∘ V.int) ∘ (λc:UInt8=>(c.toNat:Int))=λx=>x==c:=by
      funext x;show((x.toNat:Int)==(c.toNat:Int))=(x==c);rw[bC];simp[iu]
     rw[h2]
    rw[<-e]at k;exact k _ su
end
noncomputable def zm:List Str:=["black","blue","cyan","green","magenta","red","white","yellow"]
def zj:List Str->Nat->cS->Nat
 |[],_,_=>0
 |z::r,k,b=>if bi b=eX z then k else zj r (k+1) b
def kG(b:cS):Nat:=zj zm 1 b
noncomputable def o8(low q:cS):Option (Pc×Nat):=if 0<kG low then some (.colour (kG low),0)else match qy low with
 |some x=>some (.condition x.1 x.2,0)
 |none=>if oZ low=true then some (.passed (low.headD 0) low.length (g_ (low.headD 0) q),more (g_ (low.headD 0) q))else none
def brk(b:cS)(i:Nat):Option (Pc×Nat):=if i+1+upTo b (i+1) 93=b.length then none else(o8 (((b.drop (i+1)).take (upTo b (i+1) 93)).map lower) (b.drop (i+1+upTo b (i+1) 93+1))).map λx=>(x.1,upTo b (i+1) 93+2+x.2)
section
abbrev Rk:Stmt:=top 99
def PK:dP ["inner","number","word"] ["inner"] (c9 Rk):=dW
inductive O5(K:b6)(vs:List V)(H:Hp)(Q:VK)(z3:XK):Prop|m(a b)(_:vs=[.ref a])(_:cU K H a (bv b))(_:∀H',cR H H'->Q (.int (kG b)) H')
def az3(T:TX P w K mg)(l6:Own P w K mg base cY 1 "codes_of" ["word"] qb)(F:dM K "colour_number" "colour_number" Rk f fd):dJ P w K mg base cY 2 f fd ["inner"] (O5 K):=by
 refine F.oK PK λc8 A outer s H vs Q E hr h=>?_;obtain⟨a,b,rfl,hS,k⟩:=h;have nd:=PK.nd;have iG:=hr.units;obtain⟨Le,Zk,KG⟩:=T.ZF;refine⟨_,(cW (kN cA rfl (aa4 rfl T.t_ (i7 Zk)) (uD rfl (lA (fF (i:=1) nd) (lA (fF (i:=2) nd) ux))) (cX (dO (dj (ql iG) (pv 0) (dF l6 hr (cT (pv 2)))) (cX (dh (pv 1))) dX)))
  (cX (dh cZ))),?_⟩
 refine⟨Le,_,rfl,KG _,Zn (K:=K) (a:=Le) (xs:=zm.map V.str) (λi σ H'=>∃v1 v2:Option V,σ=[some (.ref a),v1,v2]/\cR H H'/\kG b=zj (zm.drop i) (i+1) b) ⟨none,none,rfl,cR.refl H,rfl⟩ (λH'=>KG _) ?_ ?_⟩
 .rintro i y σ H' T' hy ⟨v1,v2,rfl,sm,hc⟩ hT;rw[aR]at hy;obtain⟨z,hz,rfl⟩:=aG.mp hy;have Sm:z.length<=100:=by
   have:∀z∈zm,z.length<=100:=();exact this z (bx hz)
  rw[gh hz]at hc;unfold zj at hc;have sT:=sm.trans (cR.upd (o:=.tup [.int ((i+1:Nat):Int),.str z]) hT);refine⟨T',_,rfl,e_.of cV,rfl,_,_,rfl,_,_,rfl,rfl,?_⟩;refine⟨z,rfl,Sm,λp hp=>?_⟩;have sp:=sT.trans (cR.upd (o:=.lst ((eX z).map V.int)) hp);refine⟨_,_,iE (l:=bi b) (sp.seq hS),iE (l:=eX z) (cU.of cV),shaped_ints _,shaped_ints _,?_⟩;rw[mh];refine⟨_,rfl,dw (λq=>?_) (λq=>?_)⟩
  .rw[ah (aj q)]at hc;refine(?_);have:=k _ sp;rw[hc]at this;exact this
  .rw[aa (λe=>q (ak e))]at hc;exact⟨_,_,rfl,sp,hc⟩
 .rintro σ H' ⟨v1,v2,rfl,sm,hc⟩;have:=k _ sm;rw[hc]at this;exact this
abbrev BK:Stmt:=top 98
def Ny:dP ["picture","at","closing","inner","colour","condition","code"] ["picture","at"] (c9 BK):=dW
inductive Nh(K:b6)(C:Cs)(CN:Addr)(vs:List V)(H:Hp)(Q:VK)(E:XK):Prop|m(a b)(i:Nat)(_:vs=[.ref a,.int i])(_:cU K H a (bv b))(_:b.length<=255)(_:i<b.length)(_:(∀H',cR H H'->brk b i=none->E (.ref CN) none H'))(_:∀p n a' H',cR H H'->brk b i=some (p,n)->ie C H H' a' p (i+n)->Q (.ref a') H')
def aj4(T:TX P w K mg)(j4:OwnCls "NoPicture" CN bm newId mg base)(FB:ExcBaseFacts B newId lE bm)(sA:Own P w K mg base cY 1 "small" ["code"] yg)
  (Dn:Own P w K mg base (fO P w CN) 1 "closing_place" ["picture","at","closing"] (EN K CN))(VC:Own P w K mg base cY 2 "colour_number" ["inner"] (O5 K))
  (U9:Own P w K mg base cY 4 "read_condition" ["inner"] (Mf K C.condition))(U_:Own P w K mg base cY 1 "is_passed_time" ["inner"] (OL K))
  (DS:Own P w K mg base cY 3 "make_part" ["picture","name","letter","size","end"] (EM K C))(m9:jD P w K mg base cY 1 C.piece "Piece" ["self","name","value","end"] (r9 C.piece))
  (F:dM K "read_bracket" "read_bracket" BK f fd):dJ P w K mg base (fO P w CN) 5 f fd ["picture","at"] (Nh K C CN):=by
 refine F.oX Ny λc8 A outer s H vs Q E hr h xk hp=>?_;obtain⟨a,b,i,rfl,hS,hlen,hi,k0,k1⟩:=h;have nd:=Ny.nd;obtain⟨t2,h2,q2⟩:∃t2,gb (gJ (fO P w CN) P w K mg base ["picture","at","closing","inner","colour","condition","code"] "read_bracket" (c9 BK) f c8 A outer s H E) ((gH BK).drop 2) t2/\
   ∀(u:Nat) (low:cS) (D:Addr) (H2:Hp),low.length<=255->brk b i=(o8 low (b.drop (i+1+u+1))).map (λx=>(x.1,u+2+x.2))->cR H H2->H2 D=some (.lst (bv low))->
    t2 {nx:=λ_ H'=>Q .dI H',rt:=Q} [some (.ref a),some (.int i),some (.int ((i+1+u:Nat):Int)),some (.ref D),none,none,none] H2:=by
  refine⟨_,(cW (dN (i:=4) nd (dF VC hr (cT (pv 3))))
  (cW (dO (dj iV (pv 4) cZ) (cX (dh (iQ m9 hr (c_ eH (c_ (pv 4) (cT (dm fL (pv 2) cZ))))))) dX)
  (cW (dN (i:=5) nd (dF U9 hr (cT (pv 3))))
  (cW (dO (dj Bd (pv 5) sH) (cX (dh (iQ m9 hr (c_ eH (c_ (pv 5) (cT (dm fL (pv 2) cZ))))))) dX)
  (cW (dO (iH (dF U_ hr (cT (pv 3)))) (cX (dh (dF DS hr (c_ (pv 0) (c_ eH (c_ (fM fW (pv 3) cZ (λ_ _=>rfl)) (c_ (eN fD rfl T.fq () (cT (pv 3))) (cT (dm fL (pv 2) cZ))))))))) dX)
  (cX (mZ j4 FB rfl xk rfl (cT eH)))))))),?_⟩
  intro u low D H2 Cy hb sm hD;refine⟨D,low,rfl,cU.of hD,λH3 s3=>?_⟩;have f9:=sm.trans s3;have jY:=s3 _ _ hD;unfold o8 at hb;refine⟨_,_,rfl,rfl,_,rfl,dw (λq=>?_) (λq=>?_)⟩
  .have hc:0<kG low:=by
    have:=aj q;lia
   rw[ah hc]at hb;refine⟨_,_,rfl,rfl,λx dx hx eU dR=>?_⟩;refine⟨x,dx,_,_,_,rfl,cV,rfl,k1 _ _ x _ (f9.ins hx eU) hb ⟨f9.free hx,_,⟨dx,?_⟩,rfl⟩⟩;rw[cV,show((i+(u+2+0):Nat):Int)=((i+1+u:Nat):Int)+1 by lia];rfl
  .have hc:¬0<kG low:=λz=>q (ak ());rw[aa hc]at hb;refine⟨D,low,rfl,cU.of jY,(),λH4 s4 hn=>?_,λH4 c z v s4 hv hf hA=>?_⟩
   .rw[hn]at hb;have iS:=f9.trans s4;have zV:=s4 _ _ jY;refine⟨rfl,_,rfl,dB ⟨D,low,rfl,cU.of zV,λH5 s5=>⟨_,rfl,?_⟩⟩⟩;have pD:=iS.trans s5;have zU:=s5 _ _ zV;cases nY:oZ low with
    |true=>
     rw[nY,ah rfl]at hb;obtain⟨c0,r0,rfl⟩:∃c0 r0,low=c0::r0:=by
      cases low with
      |nil=>cases nY
      |cons c0 r0=>exact⟨c0,r0,rfl⟩
     refine dZ ⟨D,_,_,_,rfl,rfl,cU.of zU,eV (j:=0) rfl,D,_,rfl,.inl (cU.of zU),_,_,rfl,rfl,?_⟩;refine⟨a,b,"passed",c0,(c0::r0).length,i+1+u+1,?_,pD.seq hS,λa' q' H' s6 n1 n2 hP hA=>k1 _ _ a' H' (pD.trans s6) hb ⟨pD.free n1,_,?_,q',rfl,pD.free n2,hA⟩⟩
     .rw[eB];rfl
     .have e:i+(u+2+more (g_ ((c0::r0).headD 0) (b.drop (i+1+u+1))))=i+1+u+1+more (g_ c0 (b.drop (i+1+u+1))):=by
       show i+(u+2+more (g_ c0 (b.drop (i+1+u+1))))=_;lia
      rw[e];exact hP
    |false=>
     rw[nY,aa (by simp)]at hb;exact dB ⟨(),k0 H5 pD hb⟩
   .rw[hv]at hb;have iS:=f9.trans s4;refine⟨rfl,_,rfl,dZ ⟨_,_,rfl,rfl,λx dx hx eU dR=>?_⟩⟩;obtain⟨dc,hA⟩:=hA;refine⟨x,dx,_,_,_,rfl,cV,rfl,k1 _ _ x _ (iS.ins hx eU) hb ⟨iS.free hx,_,⟨dx,?_⟩,c,rfl,f9.free hf,dc,?_⟩⟩
    .rw[cV,show((i+(u+2+0):Nat):Int)=((i+1+u:Nat):Int)+1 by lia];rfl
    .exact(cR.refl H4).ins hx eU _ _ hA
 refine⟨_,(cW (dN (i:=2) nd (kg Dn (hr.mono ()) (kQ xk (λ_ z=>z)) (c_ (pv 0) (c_ (pv 1) (cT (dG T.UO))))))
  (cW (l_ (i:=3) rfl nd rfl rfl (lD rfl rfl rfl rfl) (gR (fP fX (pv 0) (eY (dm fL (pv 1) cZ)) (eY (pv 2)))) (iA (N:=["picture","at","closing","inner","colour","condition","code"]) (sc:=c9 (top 98)) (own:=[("code",6)]) ()) (λ_ _ _ _ _=>fF (i:=6) nd (.inr rfl)) (λ_ _ _ _ _=>mq) (λ_ _ _ _ _=>(dF sA hr (cT (pv 6)))))
  h2)),?_⟩
 refine⟨a,b,i,93,rfl,hS,hi,λe=>?_,λeF=>?_⟩
 .exact k0 H (cR.refl H) (by unfold brk;rw[ah e])
 .generalize hu:upTo b (i+1) 93=u at eF ⊢;have hb:brk b i=(o8 (((b.drop (i+1)).take u).map lower) (b.drop (i+1+u+1))).map (λx=>(x.1,u+2+x.2)):=by
   unfold brk;rw[hu,aa ()]
  have ec:fH (bv b) (some ((i:Int)+1)) (some ((i+1+u:Nat):Int))=bv ((b.drop (i+1)).take u):=by
   have:=rG b (i+1) (i+1+u);rw[show i+1+u-(i+1)=u by lia]at this;exact this
  refine⟨_,_,rfl,rfl,(i:Int)+1,rfl,((i+1+u:Nat):Int),rfl,a,_,rfl,hS,?_⟩;rw[ec];generalize hl:(b.drop (i+1)).take u=l at hb ⊢;have Cy:l.length<=255:=by
   rw[<-hl,aW,aQ];lia
  refine λp hp=>⟨p,rfl,⟨_,cU.of cV⟩,λD hD=>Bh (K:=K) (a:=p) (xs:=bv l) (λj H'=>H'=upd (upd H p (.lst (bv l))) D (.lst (bv ((l.map lower).take j)))) rfl ?_ ?_ ?_⟩
  .rintro j H' _ rfl;have:p≠D:=fE cV hD;exact cU.of (by rw[eK this,cV])
  .rintro j x H' hx rfl;obtain⟨c,hc,rfl⟩:=we hx;refine⟨rfl,_,rfl,_,cV,?_,?_⟩
   .rw[eB,aW,az];show _<2^24;lia
   .rw[jd,rZ];have e:(l.map lower).take (j+1)=(l.map lower).take j++[lower c]:=take_snoc (by rw[aR,hc];rfl);rw[e];unfold bv bi;rw[bf,bf];rfl
  .rintro H' rfl;rw[bq (by rw[eB,az];exact aI _)];exact q2 u (l.map lower) D _ (by rw[az];exact Cy) hb ((cR.upd hp).trans (cR.upd hD)) cV
end
noncomputable def yM:List (Key×V):=[(.inl 48,.str "place"),(.inl 35,.str "place"),(.inl 63,.str "place"),(.inl 46,.str "point"),(.inl 44,.str "comma"),(.inl 37,.str "percent"),(.inl 64,.str "at")]
noncomputable def je(c:UInt8):Option Str:=if c=48\/c=35\/c=63 then some "place" else if c=46 then some "point" else if c=44 then some "comma" else if c=37 then some "percent" else if c=64 then some "at" else none
def Z1(c:UInt8):ku yM (.inl (c.toNat:Int))=(je c).map V.str:=by
 have key:∀k:Fin 256,ku yM (.inl (k.val:Int))=(je (UInt8.ofNat k.val)).map V.str:=();have:=key ⟨c.toNat,c.toNat_lt⟩;simp only[cE]at this;exact this
noncomputable def uI:List (Key×V):=[(.inr "general",.str "general"),(.inr "am/pm",.str "noon"),(.inr "a/p",.str "noon")]
def iK:List (Str×Str):=[("general","general"),("am/pm","noon"),("a/p","noon")]
def lF:List (Str×Str)->cS->Nat->Option (Str×Nat)
 |[],_,_=>none
 |x::r,b,i=>if jm (bi b) i x.1=true then some (x.2,x.1.length)else lF r b i
def vv(x:Str×Str)(r:List (Str×Str))(b:cS)(i:Nat):lF (x::r) b i=if jm (bi b) i x.1=true then some (x.2,x.1.length)else lF r b i:=rfl
def FZ:Str:=" !$&'()+-/:<=>^{}~"
def vY(c:UInt8):Bool:=inV (V.int c.toNat) ((eX FZ).map V.int)
def qJ(b:cS)(i:Nat)(c:UInt8):Option (Pc×Nat):=if 127<c.toNat\/vY c=true then some (.text ((b.drop i).take (f_ c)),f_ c)else none
def uR(b:cS)(i:Nat)(c:UInt8):Option (Pc×Nat):=match longest (lower c)with
 |some m=>if m<fG b i (lower c)then none else some (.part (lower c) (fG b i (lower c)) (g_ (lower c) (b.drop (i+fG b i (lower c)))),fG b i (lower c)+more (g_ (lower c) (b.drop (i+fG b i (lower c)))))
 |none=>qJ b i c
def tD(b:cS)(i:Nat)(c:UInt8):Option (Pc×Nat):=match lF iK b i with
 |some x=>some (.word x.1 x.2,x.2)
 |none=>uR b i c
noncomputable def wR(b:cS)(i:Nat)(c:UInt8):Option (Pc×Nat):=if c=69/\((b.drop (i+1)).take 1=[43]\/(b.drop (i+1)).take 1=[45])then some (.exponent ((b.drop (i+1)).headD 0),2)else tD b i c
def wU(b:cS)(i:Nat)(c:UInt8):Option (Pc×Nat):=match je c with
 |some nm=>some (.sign nm c,1)
 |none=>wR b i c
def uS(b:cS)(i:Nat)(c:UInt8):Option (Pc×Nat):=if c=91 then brk b i else wU b i c
def uT(b:cS)(i:Nat)(c:UInt8):Option (Pc×Nat):=if c=92\/c=95 then(b[i+1]?).map (λd=>(.text (o9 c d (b.drop (i+1))),1+f_ d))else uS b i c
def rp(b:cS)(i:Nat)(c:UInt8):Option (Pc×Nat):=if c=34 then(if i+1+upTo b (i+1) 34=b.length then none else some (.text ((b.drop (i+1)).take (upTo b (i+1) 34)),upTo b (i+1) 34+2))else uT b i c
section
abbrev uP:Stmt:=top 92
def QD:dP ["picture","at","code","word","closing","end"] ["picture","at"] (c9 uP):=dW
inductive QA(K:b6)(C:Cs)(CN:Addr)(vs:List V)(H:Hp)(Q:VK)(E:XK):Prop|m(a b)(i:Nat)(c:UInt8)(_:vs=[.ref a,.int i])(_:cU K H a (bv b))(_:b.length<=255)(_:b[i]? =some c)(_:(∀H',cR H H'->rp b i c=none->E (.ref CN) none H'))(_:∀p n a' H',cR H H'->rp b i c=some (p,n)->ie C H H' a' p (i+n)->Q (.ref a') H')
def aG2(T:TX P w K mg)(j4:OwnCls "NoPicture" CN bm newId mg base)(FB:ExcBaseFacts B newId lE bm)(sA:Own P w K mg base cY 1 "small" ["code"] yg)
  (l6:Own P w K mg base cY 1 "codes_of" ["word"] qb)(DB:Own P w K mg base cY 2 "begins_with" ["codes","at","word"] (Eu K))(Di:Own P w K mg base cY 1 "character_size" ["first"] yh)
  (Dn:Own P w K mg base (fO P w CN) 1 "closing_place" ["picture","at","closing"] (EN K CN))(T7:Own P w K mg base (fO P w CN) 3 "read_character_behind" ["picture","at"] (Fo K C CN))
  (VX:Own P w K mg base (fO P w CN) 5 "read_bracket" ["picture","at"] (Nh K C CN))(YA:Own P w K mg base (fO P w CN) 4 "read_row" ["picture","at"] (Nf K C CN))
  (m9:jD P w K mg base cY 1 C.piece "Piece" ["self","name","value","end"] (r9 C.piece))
  (F:dM K "read_piece" "read_piece" uP f fd):dJ P w K mg base (fO P w CN) 6 f fd ["picture","at"] (QA K C CN):=by
 refine F.oX QD λc8 A outer s H vs Q E hr h xk hp=>?_;obtain⟨a,b,i,c,rfl,hS,hlen,hc,k0,k1⟩:=h;have nd:=QD.nd;have aM7:(A.deeper (envOfC "read_piece" (c9 uP) s.heap.objs.size f c8)).units+65<cLine:=by
  have:=hr.un;lia
 have gv:=(aD.mp hc).1;obtain⟨Fg,MI,A9⟩:=T.ap4;obtain⟨Ff,MH,A8⟩:=T.ap2;obtain⟨Jj,Dr,xT⟩:=T.Ji;have A9:kX P w K Fg yM:=A9;have A8:kX P w K Ff uI:=A8;have xT:kX P w K Jj Gm:=xT;obtain⟨t7,h7,q7⟩:∃t7,gb (gJ (fO P w CN) P w K mg base ["picture","at","code","word","closing","end"] "read_piece" (c9 uP) f c8 A outer s H E) ((gH uP).drop 7) t7/\
   ∀(v3:Option V) (H2:Hp),cR H H2->rp b i c=uR b i c->t7 {nx:=λ_ H'=>Q .dI H',rt:=Q} [some (.ref a),some (.int i),some (.int c.toNat),v3,none,none] H2:=by
  refine⟨_,(cW (dO (NU (NX (dF sA hr (cT (pv 2))) (i7 Dr)) (by with_unfolding_all rfl)) (cX (dh (kg YA (hr.mono ()) (kQ xk (λ_ z=>z)) (c_ (pv 0) (cT (pv 1)))))) dX)
  (cW (dO (PW.pt (mF (dj iV (pv 2) cZ) (oE (dj lz (pv 2) (dF l6 hr (cT (aG0 T.ap5))) (by with_unfolding_all rfl))))) (cW (dN (i:=5) nd (dm fL (pv 1) (dF Di hr (cT (pv 2)))))
  (cX (dh (iQ m9 hr (c_ eH (c_ (fP fX (pv 0) (eY (pv 1)) (eY (pv 5))) (cT (pv 5)))))))) dX)
  (cX (mZ j4 FB rfl xk rfl (cT eH))))),?_⟩
  intro v3 H2 sm hb;unfold uR at hb;refine⟨_,rfl,_,_,.inl (jl c.toNat),rfl,xT,rfl,_,rfl,?_⟩;rw[rZ,KR];cases hm:longest (lower c)with
  |some m=>
   rw[hm]at hb;dsimp only at hb;refine dZ ⟨a,b,i,c,m,rfl,sm.seq hS,hc,hm,λeF=>?_,λhle a' H' s3 hP=>?_⟩
   .rw[ah eF]at hb;exact k0 H2 sm hb
   .rw[aa ()]at hb;refine k1 _ _ a' H' (sm.trans s3) hb ?_;rw[<-Nat.add_assoc];exact hP.old sm
  |none=>
   rw[hm]at hb;dsimp only at hb;unfold qJ at hb;refine dB ?_;have hit:(127<c.toNat\/vY c=true)->∀H3,cR H H3->qC (yT (qI (qK λi j=>.int (i+j)) (iL 1) (wk yh [] E0 (kP (iL 2) nI))) (rB 5)) (yS (yE C.piece (r9 C.piece) [] E0 (kP (tC (.str "text")) (kP (GX (Rr K) (iL 0) (BH (iL 1)) (BH (iL 5))) (kP (iL 5) nI))))) {nx:=λ_ H'=>Q .dI H',rt:=Q} [some (.ref a),some (.int i),some (.int c.toNat),v3,none,none] H3:=by
    intro h H3 s3;rw[ah h]at hb;refine⟨_,rfl,_,_,rfl,rfl,?_⟩;have ee:(i:Int)+gm c.toNat=((i+f_ c:Nat):Int):=by
     have:=FP c;lia
    refine⟨(i:Int),rfl,((i+f_ c:Nat):Int),by rw[<-ee],a,_,rfl,s3.seq hS,?_⟩;rw[rG,show i+f_ c-i=f_ c by lia];refine λp hp=>(λx dx hx eU dR=>?_);refine⟨x,dx,_,_,_,rfl,cV,rfl,k1 _ _ x _ ((s3.trans (cR.upd hp)).ins hx eU) hb ⟨(s3.trans (cR.upd hp)).free hx,_,⟨dx,?_⟩,p,rfl,s3.free hp,?_⟩⟩
    .rw[cV,<-ee];rfl
    .exact(cR.refl _).ins hx eU _ _ cV
   refine⟨_,_,rfl,rfl,_,rfl,dw (λq=>?_) (λq=>?_)⟩
   .have h:127<c.toNat:=by
     have:=aj q;lia
    exact hit (.inl h) H2 sm
   .have h:¬127<c.toNat:=λz=>q (ak ());refine⟨FZ,rfl,(),λp hp=>⟨p,_,rfl,.inl (cU.of cV),rfl,(),_,rfl,?_⟩⟩;have s3:=sm.trans (cR.upd (o:=.lst ((eX FZ).map V.int)) hp);show if vY c=true then _ else _;refine dw (λq=>hit (.inr q) _ s3) λq=>?_;rw[aa (by rintro(z|z);exact h z;exact q z)]at hb;exact⟨(),k0 _ s3 hb⟩
 obtain⟨t6,h6,q6⟩:∃t6,gb (gJ (fO P w CN) P w K mg base ["picture","at","code","word","closing","end"] "read_piece" (c9 uP) f c8 A outer s H E) ((gH uP).drop 6) t6/\
   ∀H2:Hp,cR H H2->rp b i c=tD b i c->t6 {nx:=λ_ H'=>Q .dI H',rt:=Q} [some (.ref a),some (.int i),some (.int c.toNat),none,none,none] H2:=by
  refine⟨_,(cW (kN hp rfl (aa3 (i7 MH)) (fF (i:=3) nd) (cX (dO (iH (dF DB hr (c_ (pv 0) (c_ (pv 1) (cT (pv 3)))))) (cX (dh (iQ m9 hr (c_ (EU (i7 MH) (pv 3) (λ_ _=>rfl)) (c_ (eN Ak rfl T.fq () (cT (pv 3))) (cT (dm fL (pv 1) (eN Ak rfl T.fq () (cT (pv 3)))))))))) dX)))
  h7),?_⟩
  intro H2 sm hb;refine⟨Ff,uI,rfl,A8,Zm (X8 uI) (λj σ H'=>∃v3:Option V,σ=[some (.ref a),some (.int i),some (.int c.toNat),v3,none,none]/\cR H H'/\lF iK b i=lF (iK.drop j) b i) ⟨none,rfl,sm,rfl⟩ ?_ ?_⟩
  .rintro j y σ H' hy ⟨v3,rfl,kY,ia⟩;obtain⟨x,hx,rfl⟩:∃x,iK[j]? =some x/\y=V.str x.1:=by
    have e:uI.map (λp=>kV p.1)=iK.map λx=>V.str x.1:=rfl;rw[e,aR]at hy;obtain⟨x,hx,e⟩:=aG.mp hy;exact⟨x,hx,e.symm⟩
   have Ht:x.1.length<=100/\ku uI (.inr x.1)=some (.str x.2):=by
    have:∀x∈iK,x.1.length<=100/\ku uI (.inr x.1)=some (.str x.2):=();exact this x (bx hx)
   rw[gh hx,vv]at ia;refine⟨a,bi b,i,x.1,rfl,kY.seq hS,(by rw[p_];lia),Ht.1,λH3 s3=>⟨_,rfl,dw (λq=>?_) (λq=>?_)⟩⟩
   .rw[ah q]at ia;have zQ:rp b i c=some (.word x.2 x.1.length,x.1.length):=by
     rw[hb];unfold tD;rw[ia]
    have s4:=kY.trans s3;have hsz:x.1.length<=sizeLine:=by
     have:=Ht.1;show _<=2^24;lia
    refine⟨Ff,uI,.inr x.1,_,rfl,A8,rfl,Ht.2,x.1,rfl,hsz,x.1,rfl,hsz,_,_,rfl,rfl,λz dz hz zO dR=>?_⟩;refine⟨z,dz,_,_,_,rfl,cV,rfl,k1 _ _ z _ (s4.ins hz zO) zQ ⟨s4.free hz,_,⟨dz,?_⟩,rfl⟩⟩;rw[cV];rfl
   .rw[aa q]at ia;exact⟨_,rfl,kY.trans s3,ia⟩
  .rintro σ H' ⟨v3,rfl,kY,ia⟩;refine q7 v3 H' kY ?_;rw[hb];unfold tD;rw[ia];rfl
 refine⟨_,(cW (dN (i:=2) nd (fM fW (pv 0) (pv 1) (λ_ _=>rfl)))
  (cW (dO (dj dU (pv 2) (dG T.MV)) (cW (dN (i:=4) nd (kg Dn (hr.mono ()) (kQ xk (λ_ z=>z)) (c_ (pv 0) (c_ (pv 1) (cT (dG T.MV))))))
  (cX (dh (iQ m9 hr (c_ eH (c_ (fP fX (pv 0) (eY (dm fL (pv 1) cZ)) (eY (pv 4))) (cT (dm fL (pv 4) cZ)))))))) dX)
  (cW (dO (PW.pt (mF (dj dU (pv 2) (dG T.XJ)) (oE (dj dU (pv 2) (dG T.JI))))) (cX (dh (kg T7 (hr.mono ()) (kQ xk (λ_ z=>z)) (c_ (pv 0) (cT (pv 1)))))) dX)
  (cW (dO (dj dU (pv 2) (dG T.UM)) (cX (dh (kg VX (hr.mono ()) (kQ xk (λ_ z=>z)) (c_ (pv 0) (cT (pv 1)))))) dX)
  (cW (dO (NU (NX (pv 2) (i7 MI)) (by with_unfolding_all rfl)) (cX (dh (iQ m9 hr (c_ (EU (i7 MI) (pv 2) (λ_ _=>rfl)) (c_ (pv 2) (cT (dm fL (pv 1) cZ))))))) dX)
  (cW (dO (PW.pt (nh (dj dU (pv 2) (dG T.K8)) (m6 (dj (av1 aM7) (fP fX (pv 0) (eY (dm fL (pv 1) cZ)) (eY (dm fL (pv 1) cZ))) (Fx (c_ (fJ (cT (dG T.FT))) (cT (fJ (cT (dG T.Bo)))))) (by with_unfolding_all rfl))))) (cX (dh (iQ m9 hr (c_ eH (c_ (fM fW (pv 0) (dm fL (pv 1) cZ) (λ_ _=>rfl)) (cT (dm fL (pv 1) cZ))))))) dX)
  h6)))))),?_⟩
 refine⟨a,_,_,_,rfl,rfl,hS,eV (qt hc),?_⟩;have s0:=cR.refl H;refine⟨rfl,_,rfl,dw (λq=>?_) (λq=>?_)⟩
 .have e:c=34:=iu.mpr (V.int.inj (aj q));have hb:rp b i c=(if i+1+upTo b (i+1) 34=b.length then none else some (.text ((b.drop (i+1)).take (upTo b (i+1) 34)),upTo b (i+1) 34+2)):=by
   unfold rp;rw[ah e]
  refine⟨a,b,i,34,rfl,hS,gv,λe=>k0 H s0 (by rw[hb,ah e]),λeF=>?_⟩;rw[aa ()]at hb;generalize upTo b (i+1) 34=u at hb eF ⊢;have ec:fH (bv b) (some ((i:Int)+1)) (some ((i+1+u:Nat):Int))=bv ((b.drop (i+1)).take u):=by
   have:=rG b (i+1) (i+1+u);rw[show i+1+u-(i+1)=u by lia]at this;exact this
  refine⟨_,_,rfl,rfl,(i:Int)+1,rfl,((i+1+u:Nat):Int),rfl,a,_,rfl,hS,?_⟩;rw[ec];refine λp hp=>⟨_,_,rfl,rfl,λx dx hx eU dR=>?_⟩;refine⟨x,dx,_,_,_,rfl,cV,rfl,k1 _ _ x _ ((cR.upd hp).ins hx eU) hb ⟨(cR.upd hp).free hx,_,⟨dx,?_⟩,p,rfl,hp,?_⟩⟩
  .rw[cV,show((i+(u+2):Nat):Int)=((i+1+u:Nat):Int)+1 by lia];rfl
  .exact(cR.refl _).ins hx eU _ _ cV
 have Si:c≠34:=λe=>q (by rw[e];rfl);have TR:c=92\/c=95->Fo K C CN ([.ref a,.int i]++[]) H Q E:=λe=>by
  have hb:rp b i c=(b[i+1]?).map (λd=>(.text (o9 c d (b.drop (i+1))),1+f_ d)):=by
   unfold rp uT;rw[aa Si,ah e]
  refine⟨a,b,i,c,rfl,hS,hc,λe2 H' sm=>k0 H' sm ?_,λd a' H' hd sm hP=>k1 _ _ a' H' sm (by rw[hb,hd];rfl) ?_⟩
  .rw[hb,List.getElem?_eq_none ()];rfl
  .rw[<-Nat.add_assoc];exact hP
 refine⟨rfl,_,rfl,dw (λq=>(TR (.inl (iu.mpr (V.int.inj (aj q)))))) (λq=>?_)⟩;have n92:c≠92:=λe=>q (by rw[e];rfl);refine⟨rfl,_,rfl,dw (λq=>(TR (.inr (iu.mpr (V.int.inj (aj q)))))) (λq=>?_)⟩;have n95:c≠95:=λe=>q (by rw[e];rfl);have jH:rp b i c=uS b i c:=by
  unfold rp uT;rw[aa Si,aa (by rintro(z|z);exact n92 z;exact n95 z)]
 unfold uS at jH;refine⟨rfl,_,rfl,dw (λq=>?_) (λq=>?_)⟩
 .have e:c=91:=iu.mpr (V.int.inj (aj q));rw[ah e]at jH;exact⟨a,b,i,rfl,hS,hlen,gv,λH' sm e=>k0 H' sm (by rw[jH,e]),λp n a' H' sm e hP=>k1 p n a' H' sm (by rw[jH,e]) hP⟩
 have n91:c≠91:=λe=>q (by rw[e];rfl);rw[aa n91]at jH;unfold wU at jH;refine⟨Fg,yM,.inl (c.toNat:Int),rfl,A9,rfl,_,rfl,?_⟩;have sv:=Z1 c;cases hs:je c with
 |some nm=>
  rw[hs]at jH sv;rw[sv];refine dZ ⟨Fg,yM,.inl (c.toNat:Int),_,rfl,A9,rfl,sv,_,_,rfl,rfl,λz dz hz zO dR=>?_⟩;refine⟨z,dz,_,_,_,rfl,cV,rfl,k1 _ _ z _ (s0.ins hz zO) jH ⟨hz,_,⟨dz,?_⟩,rfl⟩⟩;rw[cV];rfl
 |none=>
  rw[hs]at jH sv;rw[sv];refine dB ?_;dsimp only at jH;unfold wR at jH;refine⟨rfl,_,rfl,dw (λq=>?_) (λq=>?_)⟩
  .have e:c=69:=iu.mpr (V.int.inj (aj q));have ec:fH (bv b) (some ((i:Int)+1)) (some ((i:Int)+2))=bv ((b.drop (i+1)).take 1):=by
    have:=rG b (i+1) (i+2);rw[show i+2-(i+1)=1 by lia]at this;exact this
   refine⟨_,_,rfl,rfl,(i:Int)+1,rfl,_,_,rfl,rfl,(i:Int)+2,rfl,a,_,rfl,hS,?_⟩;rw[ec];refine λp hp=>⟨(),λq1 i9=>⟨(),λq2 pK=>⟨(by show 2<=2^24;decide),λq3 pJ=>?_⟩⟩⟩;have p1:p≠q1:=fE cV i9;have s1:=cR.upd (o:=.lst (bv ((b.drop (i+1)).take 1))) hp;have s2:=cR.upd (o:=.lst [V.int 43]) i9;have s3:=cR.upd (o:=.lst [V.int 45]) pK;have s4:=cR.upd (o:=.tup [V.ref q1,V.ref q2]) pJ;have all:=((s1.trans s2).trans s3).trans s4;have C6:cU K _ p (bv ((b.drop (i+1)).take 1)):=cU.of (s4 _ _ (s3 _ _ (s2 _ _ cV)));refine⟨_,_,iE (l:=bi ((b.drop (i+1)).take 1)) C6,.tup (e_.of cV) (.cons (iE (l:=[43]) (cU.of (s4 _ _ (s3 _ _ cV)))) (.cons (iE (l:=[45]) (cU.of (s4 _ _ cV))) .nil)),shaped_ints _,rfl,?_⟩;have eb:(([.list ([43].map PyData.int),.list ([45].map PyData.int)]:List PyData).any λe=>PyData.eqv e (.list ((bi ((b.drop (i+1)).take 1)).map PyData.int)))=decide ((b.drop (i+1)).take 1=[43]\/(b.drop (i+1)).take 1=[45]):=by
    rw[List.any_cons,List.any_cons,List.any_nil,mh,mh,show([43]:List Int)=bi [43]from rfl,show([45]:List Int)=bi [45]from rfl,bi_dec,bi_dec,Bool.or_false,Bool.decide_or];congr 1
    .exact au.mpr ⟨Eq.symm,Eq.symm⟩
    .exact au.mpr ⟨Eq.symm,Eq.symm⟩
   rw[eb];refine⟨_,rfl,dw (λq=>?_) (λq=>?_)⟩
   .have h:=aj q;rw[ah ⟨e,h⟩]at jH;obtain⟨d,hd⟩:∃d,b[i+1]? =some d:=by
     cases hx:b[i+1]? with
     |some d=>exact⟨d,rfl⟩
     |none=>
      have:b.drop (i+1)=[]:=bM (by
       have:=List.getElem?_eq_none_iff.mp hx;lia)
      rw[this]at h;rcases h with h|h<;>cases h
    have eh:(b.drop (i+1)).headD 0=d:=by
     rw[gh hd];rfl
    rw[eh]at jH;have ad:lY (bv b) ((i:Int)+1)=some (V.int d.toNat):=at_of (j:=i+1) () (qt hd);refine⟨_,_,rfl,rfl,a,_,_,_,rfl,rfl,all.seq hS,ad,_,_,rfl,rfl,λz dz hz zO dR=>?_⟩;refine⟨z,dz,_,_,_,rfl,cV,rfl,k1 _ _ z _ (all.ins hz zO) jH ⟨all.free hz,_,⟨dz,?_⟩,rfl⟩⟩;rw[cV];rfl
   .rw[aa (λz=>q (ak z.2))]at jH;exact q6 _ all jH
  .have e:c≠69:=λe=>q (by rw[e];rfl);rw[aa (λz=>e z.1)]at jH;exact dB (q6 H s0 jH)
end
def utf8_ascii{c:UInt8}{r:cS}(h:c.toNat<128):Wbk.utf8 (c::r)=Wbk.utf8 r:=by
 rw[x6,ah h]
def AB{c:UInt8}{r:cS}(h:Wbk.utf8 (c::r)=true):1<=f_ c/\f_ c<=r.length+1/\Wbk.utf8 ((c::r).drop (f_ c))=true:=by
 obtain⟨u0,u1⟩:=Kv (c:=(c.toNat:Int)) (r:=bi r) (FU (c::r));have e:oct ((c.toNat:Int)::bi r)=c::r:=rq (c::r);rw[e,h]at u0 u1;have hz:=FP c;rw[p_,<-hz]at u0 u1;have n0:¬((f_ c:Int)=0\/(r.length:Int)+1<(f_ c:Int)):=λz=>by cases u0 z
 have h1:1<=f_ c:=();have h2:f_ c<=r.length+1:=();refine⟨h1,h2,?_⟩;have:=u1 () ();rw[bZ]at this;have e2:oct (((c.toNat:Int)::bi r).drop (f_ c))=(c::r).drop (f_ c):=by
  rw[show((c.toNat:Int)::bi r)=bi (c::r)from rfl,show(bi (c::r)).drop (f_ c)=bi ((c::r).drop (f_ c)) by unfold bi;rw[bH]];exact rq _
 rw[e2]at this;exact(cG.mp this.symm).2
def wc{b:UInt8}{lo hi:Nat}(h:jI b lo hi=true)(hl:128<=lo):¬b.toNat<128:=by
 unfold jI at h;rw[aE,aq,aq]at h;lia
theorem vq{c:UInt8}(hc:c.toNat<128):∀(n:Nat) (t r:cS),t.length<=n->Wbk.utf8 (t++c::r)=true->Wbk.utf8 r=true
 |n,[],r,_,h=>by
  rw[cD,utf8_ascii hc]at h;exact h
 |0,a::t,r,hn,h=>by simp at hn
 |n+1,a::t,r,hn,h=>by
  have nZ:t.length<=n:=by simpa using hn
  rw[bK,x6]at h;split at h
  .exact vq hc n t r nZ h
  .split at h
   .match t,nZ,h with
    |[],_,h=>
     simp only[cD,bK,aE]at h;exact(wc h.1 () hc).elim
    |x::t,nZ,h=>
     simp only[cD,bK,aE]at h;exact vq hc n t r (by simp at nZ;lia) h.2
   .split at h
    .match t,nZ,h with
     |[],_,h=>
      cases r with
      |nil=>simp at h
      |cons y r=>
       simp only[cD,bK,aE]at h;refine(wc h.1 ?_ hc).elim;split<;>decide
     |[x],_,h=>
      simp only[cD,bK,aE]at h;exact(wc h.2.1 () hc).elim
     |x::y::t,nZ,h=>
      simp only[cD,bK,aE]at h;exact vq hc n t r (by simp at nZ;lia) h.2.2
    .split at h
     .match t,nZ,h with
      |[],_,h=>
       match r,h with
       |y::z::r,h=>
        simp only[cD,bK,aE]at h;refine(wc h.1 ?_ hc).elim;split<;>decide
      |[x],_,h=>
       cases r with
       |nil=>simp at h
       |cons y r=>
        simp only[cD,bK,aE]at h;exact(wc h.2.1 () hc).elim
      |[x,y],_,h=>
       simp only[cD,bK,aE]at h;exact(wc h.2.2.1 () hc).elim
      |x::y::z::t,nZ,h=>
       simp only[cD,bK,aE]at h;exact vq hc n t r (by simp at nZ;lia) h.2.2.2
     .cases h
theorem vA:∀(n:Nat) (l:cS),n<=l.length->(∀x∈l.take n,x.toNat<128)->Wbk.utf8 l=true->Wbk.utf8 (l.drop n)=true
 |0,l,_,_,h=>h
 |n+1,[],hl,_,_=>by simp at hl
 |n+1,c::l,hl,hp,h=>by
  rw[utf8_ascii (hp c (by simp))]at h;exact vA n l (by simpa using hl) (λx hx=>hp x (by simp[hx])) h
theorem Bu{p:UInt8->Bool}{x:UInt8}:∀{l:cS},x∈l.takeWhile p->p x=true
 |[],h=>by cases h
 |a::l,h=>by
  rw[aF]at h;split at h
  .rename_i ha;rcases aN.mp h with e|h
   .rw[e];exact ha
   .exact Bu h
  .cases h
def DC(q:cS):more (tenths q)<=q.length/\∀x∈q.take (more (tenths q)),x.toNat<128:=by
 unfold tenths;split
 .rename_i h;cases q with
  |nil=>cases h
  |cons c r=>
   have ec:c=46:=aH h;subst ec;rw[List.drop_one,List.tail_cons];have hl:=(r.takeWhile_prefix λc=>c==48).length_le;unfold more;split
   .exact⟨aP _,λx hx=>by simp at hx⟩
   .refine⟨by rw[aK];lia,λx hx=>?_⟩;rw[List.take_succ_cons]at hx;rcases aN.mp hx with e|hx
    .rw[e];decide
    .have Hu:x∈r.take (r.takeWhile λc=>c==48).length:=(List.take_subset_take_left r (Nat.min_le_right _ _)) hx;have e2:r.take (r.takeWhile λc=>c==48).length=r.takeWhile λc=>c==48:=(bY.mp (aT _)).symm;rw[e2]at Hu;have:=Bu Hu;have e3:x=48:=by simpa using this
     rw[e3];decide
 .exact⟨aP _,λx hx=>by simp[more]at hx⟩
def AQ{l:UInt8}{q:cS}(h:Wbk.utf8 q=true):more (g_ l q)<=q.length/\Wbk.utf8 (q.drop (more (g_ l q)))=true:=by
 unfold g_;split
 .exact⟨(DC q).1,vA _ q (DC q).1 (DC q).2 h⟩
 .exact⟨aP _,h⟩
def Ao{x:UInt8}(h:(lower x).toNat<128):x.toNat<128:=by
 have key:∀k:Fin 256,(lower (UInt8.ofNat k.val)).toNat<128->k.val<128:=();have:=key ⟨x.toNat,x.toNat_lt⟩;simp only[cE]at this;exact this h
def J3{b:cS}{i:Nat}{c:UInt8}(h:i+upTo b i c<b.length):b.drop i=(b.drop i).take (upTo b i c)++c::b.drop (i+upTo b i c+1):=by
 unfold upTo at h ⊢;have e:=bO (p:=λx=>x != c) (l:=b.drop i);have e2:(b.drop i).take ((b.drop i).takeWhile λx=>x != c).length=(b.drop i).takeWhile λx=>x != c:=(bY.mp (aT _)).symm;rw[e2];generalize hu:(b.drop i).takeWhile (λx=>x != c)=t at*;have e3:(b.drop i).drop t.length=(b.drop i).dropWhile λx=>x != c:=by
  conv=>lhs;rw[<-e]
  rw[List.drop_left]
 rw[bz]at e3;cases hd:(b.drop i).dropWhile λx=>x != c with
 |nil=>
  rw[hd]at e3;have:=List.drop_eq_nil_iff.mp e3;lia
 |cons y r=>
  have hy:¬(y != c)=true:=by
   have:=List.head_dropWhile_not (p:=λx=>x != c) (l:=b.drop i) (by rw[hd];simp);simp only[hd,List.head_cons]at this;rw[this];simp
  have ey:y=c:=by simpa using hy
  rw[hd,ey]at e3 e;have er:b.drop (i+t.length+1)=r:=by
   rw[<-bz,e3];rfl
  rw[er];exact e.symm
def Qc{b:cS}{i n:Nat}{c:UInt8}{p:Pc}(hc:b[i]? =some c)(hu:Wbk.utf8 (b.drop i)=true)(h:rp b i c=some (p,n)):1<=n/\i+n<=b.length/\Wbk.utf8 (b.drop (i+n))=true:=by
 have gv:=(aD.mp hc).1;have ed:=gh hc;have rW:c.toNat<128->Wbk.utf8 (b.drop (i+1))=true:=λhl=>by
  rw[ed,utf8_ascii hl]at hu;exact hu
 have z_:∀d:UInt8,d.toNat<128->i+1+upTo b (i+1) d<b.length->Wbk.utf8 (b.drop (i+1+upTo b (i+1) d+1))=true:=λd hd eF=>by
  have e:=J3 eF;rw[ed,e,<-bK]at hu;exact vq hd _ _ _ (aI _) hu
 unfold rp at h;split at h
 .split at h
  .cases h
  .rename_i h1 h2;have hle:=vN b (i+1) 34 ();have eF:i+1+upTo b (i+1) 34<b.length:=();have:=cy (aH h);obtain rfl:=this.2;refine⟨(),(),?_⟩;have:=z_ 34 () eF;rw[show i+(upTo b (i+1) 34+2)=i+1+upTo b (i+1) 34+1 by lia];exact this
 .unfold uT at h;split at h
  .rename_i h1 h2;have hl:c.toNat<128:=by rcases h2 with e|e<;>rw[e]<;>decide
   cases hd:b[i+1]? with
   |none=>
    rw[hd]at h;cases h
   |some d=>
    rw[hd]at h;have:=cy (aH h);obtain rfl:=this.2;have gi:=rW hl;rw[gh hd]at gi;obtain⟨g1,g2,g3⟩:=AB gi;rw[aQ]at g2;have:=(aD.mp hd).1;refine⟨(),(),?_⟩;rw[<-gh hd,bz]at g3;rw[show i+(1+f_ d)=i+1+f_ d by lia];exact g3
  .unfold uS at h;split at h
   .rename_i h1 h2 h3;unfold brk at h;split at h
    .cases h
    .rename_i h4;have hle:=vN b (i+1) 93 ();have eF:i+1+upTo b (i+1) 93<b.length:=();have gi:=z_ 93 () eF;generalize upTo b (i+1) 93=u at*;have go:∀m,m<=(b.drop (i+1+u+1)).length->Wbk.utf8 ((b.drop (i+1+u+1)).drop m)=true->n=u+2+m->1<=n/\i+n<=b.length/\Wbk.utf8 (b.drop (i+n))=true:=λm h5 h6 h7=>by
      subst h7;rw[aQ]at h5;rw[bz]at h6;refine⟨(),(),?_⟩;rw[show i+(u+2+m)=i+1+u+1+m by lia];exact h6
     unfold o8 at h;split at h
     .have:=cy (aH h);exact go 0 (aP _) gi this.2.symm
     .split at h
      .have:=cy (aH h);exact go 0 (aP _) gi this.2.symm
      .split at h
       .have:=cy (aH h);have hd:=AQ (l:=(List.map lower (List.take u (List.drop (i+1) b))).headD 0) gi;exact go _ hd.1 hd.2 this.2.symm
       .cases h
   .unfold wU at h;split at h
    .rename_i nm hs;have:=cy (aH h);obtain rfl:=this.2;have hl:c.toNat<128:=by
      unfold je at hs
      repeat' split at hs
      all_goals first
       |cases hs;done
       |(rename_i e;rcases e with e|e|e<;>rw[e]<;>decide)
       |(rename_i e;rw[e];decide)
     exact⟨(),(),rW hl⟩
    .unfold wR at h;split at h
     .rename_i h5;have:=cy (aH h);obtain rfl:=this.2;have gi:=rW (by rw[h5.1];decide);cases hd:b[i+1]? with
      |none=>
       have:b.drop (i+1)=[]:=bM (by
        have:=List.getElem?_eq_none_iff.mp hd;lia)
       rw[this]at h5;rcases h5.2 with h|h<;>cases h
      |some d=>
       have:=(aD.mp hd).1;rw[gh hd]at gi h5;have z8:d.toNat<128:=by
        rcases h5.2 with h|h<;>(have:=List.cons.inj h;rw[this.1];decide)
       rw[utf8_ascii z8]at gi;exact⟨(),(),gi⟩
     .unfold tD at h;split at h
      .rename_i x hw;have:=cy (aH h);obtain rfl:=this.2;have key:∀y:Str×Str,y∈iK->jm (bi b) i y.1=true->1<=y.1.length/\i+y.1.length<=b.length/\∀z∈(b.drop i).take y.1.length,z.toNat<128:=by
        intro y hy mL;unfold jm at mL;have mL:=aj mL;have e1:((bi b).drop i).take y.1.length=bi ((b.drop i).take y.1.length):=by
         unfold bi;rw[bI,bH]
        rw[e1]at mL;have facts:∀y∈iK,1<=y.1.length/\(eX y.1).length=y.1.length/\∀n∈eX y.1,n<128:=();obtain⟨f1,f2,f3⟩:=facts y hy;have hlen:((b.drop i).take y.1.length).length=y.1.length:=by
         have:=cI List.length mL;rw[az,p_,f2]at this;exact this
        rw[aW,aQ]at hlen;refine⟨f1,(),λz hz=>?_⟩;have hm:jl (z.toNat:Int)∈eX y.1:=by
         rw[<-mL];exact List.mem_map_of_mem (List.mem_map_of_mem hz)
        have:=f3 _ hm;rw[rZ]at this;exact Ao ()
       have hx:∃y∈iK,jm (bi b) i y.1=true/\x.2=y.1.length:=by
        have gen:∀l:List (Str×Str),(∀y∈l,y∈iK)->lF l b i=some x->∃y∈iK,jm (bi b) i y.1=true/\x.2=y.1.length:=by
         intro l
         induction l with
         |nil=>intro _ h;cases h
         |cons y l ih=>
          intro hl h;rw[vv]at h;split at h
          .rename_i hb;refine⟨y,hl y aB,hb,?_⟩;rw[<-aH h]
          .exact ih (λz hz=>hl z (aA _ hz)) h
        exact gen iK (λ_ h=>h) hw
       obtain⟨y,hy,hb,ey⟩:=hx;obtain⟨g1,g2,g3⟩:=key y hy hb;rw[ey];refine⟨g1,g2,?_⟩;have:=vA y.1.length (b.drop i) (by rw[aQ];lia) g3 hu;rw[bz]at this;exact this
      .unfold uR at h;split at h
       .rename_i m hm;split at h
        .cases h
        .rename_i hle;have:=cy (aH h);obtain rfl:=this.2;have Gx:∀z∈(b.drop i).take (fG b i (lower c)),z.toNat<128:=λz hz=>by
          unfold fG at hz;rw[(bY.mp (aT (λx=>lower x==lower c) (l:=b.drop i))).symm]at hz;have e:lower z=lower c:=by simpa using Bu hz
          refine Ao ?_;rw[e];unfold longest at hm
          repeat' split at hm
          all_goals first
           |cases hm;done
           |(rename_i e;rw[e];decide)
         have hr1:1<=fG b i (lower c):=by
          unfold fG;rw[ed,aF,ah (by simp),aK];lia
         have pH:fG b i (lower c)<=(b.drop i).length:=(aT _).length_le;have gi:=vA _ (b.drop i) pH Gx hu;rw[bz]at gi;rw[aQ]at pH;obtain⟨d1,d2⟩:=AQ (l:=lower c) gi;rw[aQ]at d1;rw[bz]at d2;refine⟨(),(),?_⟩;rw[<-Nat.add_assoc];exact d2
       .unfold qJ at h;split at h
        .have:=cy (aH h);obtain rfl:=this.2;rw[ed]at hu;obtain⟨g1,g2,g3⟩:=AB hu;rw[aQ]at g2;rw[<-ed,bz]at g3;exact⟨g1,(),g3⟩
        .cases h
def gn(b:cS):Nat->Nat->Option (List (List Pc))
 |0,_=>none
 |f+1,i=>match b[i]? with
  |none=>some [[]]
  |some c=>if c=59 then(gn b f (i+1)).map λl=>[]::l else(rp b i c).bind λx=>(gn b f (i+x.2)).map λl=>l.modifyHead λt=>x.1::t
theorem NV{b:cS}:∀{f i:Nat} {l:List (List Pc)},gn b f i=some l->l≠[]
 |0,_,_,h=>by cases h
 |f+1,i,l,h=>by
  rw[gn]at h;split at h
  .rw[<-aH h];simp
  .split at h
   .obtain⟨x,_,e⟩:=aG.mp h;rw[<-e];simp
   .obtain⟨x,_,h⟩:=aO.mp h;obtain⟨y,hy,e⟩:=aG.mp h;have:=NV hy;rw[<-e];cases y with
    |nil=>exact(this rfl).elim
    |cons _ _=>simp
theorem Ey{b:cS}:∀(f f' i:Nat),i<=b.length->Wbk.utf8 (b.drop i)=true->b.length-i+1<=f->b.length-i+1<=f'->gn b f i=gn b f' i
 |0,f',i,hi,hu,h,h'=>()
 |f+1,0,i,hi,hu,h,h'=>()
 |f+1,f'+1,i,hi,hu,h,h'=>by
  rw[gn,gn];cases hc:b[i]? with
  |none=>rfl
  |some c=>
   have gv:=(aD.mp hc).1;dsimp only;split
   .rename_i e;have gi:Wbk.utf8 (b.drop (i+1))=true:=by
     rw[gh hc,utf8_ascii (by rw[e];decide)]at hu;exact hu
    rw[Ey f f' (i+1) gv gi () ()]
   .cases hx:rp b i c with
    |none=>rfl
    |some x=>
     obtain⟨p,n⟩:=x;obtain⟨g1,g2,g3⟩:=Qc hc hu hx;show(gn b f (i+n)).map _=(gn b f' (i+n)).map _;rw[Ey f f' (i+n) g2 g3 () ()]
def lC(C:Cs)(H0 H:Hp)(q:Addr)(ps:List Pc):Prop:=H0 q=none/\∃as:List Addr,H q=some (.lst (as.map V.ref))/\as.length<=300/\A2 (λa p=>∃e,ie C H0 H a p e) as ps
def two(H:Hp)(pa pl:Addr):Hp:=upd (upd H pa (.lst [])) pl (.lst [])
def uh{H:Hp}{pa pl b:Addr}:two H pa pl b=none↔(H b=none/\b≠pa/\b≠pl):=by
 unfold two
 by_cases h1:b=pl
 .subst h1;rw[cV];simp
 .rw[eK h1]
  by_cases h2:b=pa
  .subst h2;rw[cV];simp
  .rw[eK h2];simp[h1,h2]
def M7{H:Hp}{pa pl:Addr}:two H pa pl pl=some (.lst []):=cV
def M8{H:Hp}{pa pl:Addr}(h:pa≠pl):two H pa pl pa=some (.lst []):=by
 unfold two;rw[eK h,cV]
theorem lC.off{H0 H:Hp}{q l:Addr}{ps:List Pc}{o o':HO}(hl:H0 l=some o)(h:lC C H0 H q ps):lC C H0 (upd H l o') q ps:=by
 obtain⟨h0,as,h1,h2,h3⟩:=h;refine⟨h0,as,?_,h2,A2.imp (λa p ⟨e,z⟩=>⟨e,z.off hl⟩) h3⟩;rw[eK (λe=>by rw[e,hl]at h0;cases h0)];exact h1
theorem lC.to{H0 H1 H H':Hp}{q:Addr}{ps:List Pc}(f:∀a o,H0 a=none->H a=some o->H1 a=none)(s:cR H H')(h:lC C H0 H q ps):lC C H1 H' q ps:=by
 obtain⟨h0,as,h1,h2,h3⟩:=h;exact⟨f _ _ h0 h1,as,s _ _ h1,h2,A2.imp (λa p ⟨e,z⟩=>⟨e,z.to f λa o _ z=>s a o z⟩) h3⟩
section
abbrev R6:Stmt:=top 115
def QE:dP ["picture","parted","pieces","at","piece"] ["picture"] (c9 R6):=dW
inductive QB(K:b6)(C:Cs)(CN:Addr)(vs:List V)(H:Hp)(Q:VK)(E:XK):Prop|m(a b)(_:vs=[.ref a])(_:cU K H a (bv b))(_:b.length<=255)(_:Wbk.utf8 b=true)(_:(∀H',cR H H'->gn b (b.length+1) 0=none->E (.ref CN) none H'))(_:∀p qs ls H',cR H H'->gn b (b.length+1) 0=some ls->H' p=some (.lst (qs.map V.ref))->qs.length<=300->A2 (λq ps=>lC C H H' q ps) qs ls->Q (.ref p) H')
def aG3(T:TX P w K mg)(TP:lB K C.piece)(W6:Own P w K mg base (fO P w CN) 6 "read_piece" ["picture","at"] (QA K C CN))
  (F:dM K "part_pieces" "part_pieces" R6 f fd):dJ P w K mg base (fO P w CN) 7 f fd ["picture"] (QB K C CN):=by
 refine F.oX QE λc8 A outer s H vs Q E hr h xk hp=>?_;obtain⟨a,b,rfl,hS,hlen,hu,k0,k1⟩:=h;have nd:=QE.nd;refine⟨_,(cW (dN (i:=1) nd (fJ ir))
  (cW (dN (i:=2) nd (fJ ir))
  (cW (dN (i:=3) nd cZ)
  (cW (r_ hp (dj jg (pv 3) (eN fD rfl T.fq () (cT (pv 0)))) (cX (dO (dj dU (fM fW (pv 0) (pv 3) (λ_ _=>rfl)) (dG T.XH)) (cW (iO (gk b7 cK cM mX (pv 1) (cT (pv 2))))
  (cW (dN (i:=2) nd (fJ ir))
  (cX (mz (i:=3) nd rfl (Or.inl rfl) cZ qm)))) (cW (dN (i:=4) nd (kg W6 (hr.mono ()) (kQ xk (λ_ z=>z)) (c_ (pv 0) (cT (pv 3)))))
  (cW (iO (gk b7 cK cM mX (pv 2) (cT (pv 4))))
  (cX (dN (i:=3) nd (dH (pv 4) rfl))))))))
  (cW (iO (gk b7 cK cM mX (pv 1) (cT (pv 2))))
  (cX (dh (pv 1)))))))),?_⟩
 refine⟨aP _,λpa tK=>⟨aP _,λpl fh=>?_⟩⟩;have Sf:pa≠pl:=fE cV fh;have aM9:H pl=none:=(cR.upd tK).free fh;refine⟨λm σ H'=>∃(i:Nat) (pl:Addr) (qs as:List Addr) (done:List (List Pc)) (cur:List Pc) (v4:Option V),σ=[some (.ref a),some (.ref pa),some (.ref pl),some (.int i),v4]/\cR H H'/\i<=b.length/\Wbk.utf8 (b.drop i)=true/\
   H' pa=some (.lst (qs.map V.ref))/\H' pl=some (.lst (as.map V.ref))/\pa≠pl/\H pl=none/\A2 (λq ps=>q≠pa/\q≠pl/\lC C (two H pa pl) H' q ps) qs done/\A2 (λa p=>∃e,ie C (two H pa pl) H' a p e) as cur/\
   qs.length+as.length<=i/\m=b.length-i/\gn b (b.length+1) 0=(gn b (b.length-i+1) i).map λl=>done++l.modifyHead λt=>cur++t,
  ⟨_,0,pl,[],[],[],[],none,rfl,((cR.upd tK).trans (cR.upd fh)),aP _,hu,(by rw[eK Sf,cV];rfl),cV,Sf,aM9,.nil,.nil,aI _,rfl,?_⟩,?_⟩
 .rw[Nat.sub_zero];cases gn b (b.length+1) 0 with
  |none=>rfl
  |some l=>cases l<;>rfl
 rintro m σ H' ⟨i,pl,qs,as,done,cur,v4,rfl,sm,hi,Hx,hA,hL,wZ,CI,h2,h1,aT0,rfl,hF⟩;have aP1:∀x,H' x=none->two H pa pl x=none:=λx hx=>uh.mpr ⟨sm.free hx,λe=>(by rw[e,hA]at hx;cases hx),λe=>(by rw[e,hL]at hx;cases hx)⟩;refine⟨a,_,rfl,.inl (sm.seq hS),_,_,rfl,rfl,_,rfl,dw (λq=>?_) (λq=>?_)⟩
 .have eF:i<b.length:=by
   have:=aj q;rw[eB]at this;lia
  obtain⟨c,hc⟩:∃c,b[i]? =some c:=⟨_,br eF⟩;have vc:gn b (b.length-i+1) i=if c=59 then(gn b (b.length-i) (i+1)).map λl=>[]::l else(rp b i c).bind λx=>(gn b (b.length-i) (i+x.2)).map λl=>l.modifyHead λt=>x.1::t:=by
   rw[gn,hc]
  refine⟨_,λσ' H2 z=>z,?_⟩;refine⟨a,_,_,_,rfl,rfl,sm.seq hS,eV (qt hc),rfl,_,rfl,dw (λq=>?_) (λq=>?_)⟩
  .
   have e:c=59:=iu.mpr (V.int.inj (aj q));rw[ah e]at vc;refine⟨.inl ⟨rfl,_,cU.of hA⟩,pa,_,_,rfl,rfl,hA,(by rw[az];show _<2^24;lia),?_⟩;refine⟨aP _,λpn pL=>?_⟩;have nA:pn≠pa:=λe=>by rw[e,cV]at pL;cases pL
   rw[eK nA]at pL;have nL:pn≠pl:=λe=>by rw[e,hL]at pL;cases pL
   refine⟨_,rfl,_,_,rfl,rfl,b.length-(i+1),(),i+1,pn,qs++[pl],[],done++[cur],[],v4,rfl,?_,eF,?_,?_,cV,cH nA,sm.free pL,?_,.nil,?_,rfl,?_⟩
   .exact(sm.off tK).trans (cR.upd (by rw[eK nA];exact pL))
   .rw[gh hc,utf8_ascii (by rw[e];decide)]at Hx;exact Hx
   .rw[eK (cH nA),cV,bf];rfl
   .
    have conv:∀(x:Addr) (o:HO),two H pa pl x=none->H' x=some o->two H pa pn x=none:=λx o hx ho=>uh.mpr ⟨(uh.mp hx).1,(uh.mp hx).2.1,λe=>by rw[e,pL]at ho;cases ho⟩
    have Rz:two H pa pn pn=some (.lst []):=M7;have zf:two H pa pn pa=some (.lst []):=M8 (cH nA);refine A2.snoc ⟨cH wZ,cH nL,?_⟩ (A2.imp (λq ps ⟨z1,z2,z3⟩=>⟨z1,λe=>?_,?_⟩) h2)
    .have:lC C (two H pa pn) H' pl cur:=⟨uh.mpr ⟨CI,cH wZ,cH nL⟩,as,hL,(),A2.imp (λa p ⟨e,z⟩=>⟨e,z.to conv λ_ _ _ y=>y⟩) h1⟩;exact(this.off zf).off Rz
    .obtain⟨_,lZ,y,_⟩:=z3;rw[e,pL]at y;cases y
    .exact((z3.to conv (cR.refl H')).off zf).off Rz
   .rw[aC];simp;lia
   .rw[hF,vc,show b.length-(i+1)+1=b.length-i by lia];cases gn b (b.length-i) (i+1)with
    |none=>rfl
    |some l=>
     show some _=some _;cases l<;>simp
  .
   have e:c≠59:=λe=>q (by rw[e];rfl);rw[aa e]at vc;refine⟨a,b,i,c,rfl,sm.seq hS,hlen,hc,λH2 s2 hn=>?_,λp n a' H2 s2 hn hP=>?_⟩
   .refine k0 H2 (sm.trans s2) ?_;rw[hF,vc,hn];rfl
   .obtain⟨g1,g2,g3⟩:=Qc hc Hx hn;have gV:=sm.trans s2;have hA2:=s2 _ _ hA;have Tc:=s2 _ _ hL;have S4:ie C (two H pa pl) H2 a' p (i+n):=hP.to (λx o hx _=>aP1 x hx) λ_ _ _ z=>z;refine⟨.inl ⟨rfl,_,cU.of Tc⟩,pl,_,_,rfl,rfl,Tc,(by rw[az];show _<2^24;lia),?_⟩;have B5:two H pa pl pl=some (.lst []):=M7;obtain⟨_,v,⟨dx,aO8⟩,_⟩:=S4.off (o':=.lst (List.map V.ref as++[V.ref a'])) B5;refine⟨a',C.piece,dx,_,_,rfl,aO8,TP.cl,TP.Qk,WJ,b.length-(i+n),(),i+n,pl,qs,as++[a'],done,cur++[p],_,rfl,gV.off CI,g2,g3,?_,?_,wZ,CI,?_,?_,?_,rfl,?_⟩
    .rw[eK wZ];exact hA2
    .rw[cV,bf];rfl
    .exact A2.imp (λq ps ⟨z1,z2,z3⟩=>⟨z1,z2,(z3.to (λ_ _ z _=>z) s2).off B5⟩) h2
    .exact A2.snoc ⟨_,S4.off B5⟩ (A2.imp (λa p ⟨e,z⟩=>⟨e,(z.same s2).off B5⟩) h1)
    .rw[aC];simp;lia
    .rw[hF,vc,hn];show Option.map _ ((gn b (b.length-i) (i+n)).map _)=_;have hfu:gn b (b.length-i) (i+n)=gn b (b.length-(i+n)+1) (i+n):=Ey _ _ _ g2 g3 () ();rw[hfu];cases gn b (b.length-(i+n)+1) (i+n)with
     |none=>rfl
     |some l=>
      show some _=some _;cases l<;>simp
 .have lW:b.length<=i:=by
   have:¬(i:Int)<((bv b).length:Int):=λz=>q (ak z);rw[eB]at this;lia
  have vc:gn b (b.length-i+1) i=some [[]]:=by
   rw[gn,List.getElem?_eq_none lW]
  refine⟨.inl ⟨rfl,_,cU.of hA⟩,pa,_,_,rfl,rfl,hA,(by rw[az];show _<2^24;lia),?_⟩;refine(k1 pa (qs++[pl]) (done++[cur]) _ (sm.off tK) ?_ ?_ ?_ ?_)
  .rw[hF,vc];show some _=some _;simp
  .rw[cV,bf];rfl
  .rw[aC];simp;lia
  .have zf:two H pa pl pa=some (.lst []):=M8 wZ;have back:∀{q:Addr} {ps:List Pc} {H2:Hp},lC C (two H pa pl) H2 q ps->lC C H H2 q ps:=λz=>z.to (λx o hx _=>(uh.mp hx).1) (cR.refl _);refine A2.snoc ?_ (A2.imp (λq ps ⟨z1,z2,z3⟩=>back (z3.off zf)) h2);refine⟨CI,as,by rw[eK (cH wZ)];exact hL,(),A2.imp (λa p ⟨e,z⟩=>⟨e,(z.off zf).to (λx o hx _=>(uh.mp hx).1) λ_ _ _ y=>y⟩) h1⟩
end
abbrev dD:Str:="place"
abbrev fB:Str:="point"
abbrev gu:Str:="comma"
abbrev gf:Str:="percent"
abbrev fc:Str:="exponent"
abbrev fK:Str:="general"
abbrev gG:Str:="at"
abbrev gr:Str:="colour"
abbrev gq:Str:="condition"
abbrev iD:Str:="text"
abbrev gZ:Str:="noon"
abbrev iR:Str:="part"
abbrev jA:Str:="passed"
def ig(ns:List Str):List Str:=ns.takeWhile λx=>!decide (x=fB)
noncomputable def isNum(ns:List Str):Bool:=decide (dD∈ns)&&(decide (ns.count fB<=1)&&(decide (ns.count gf<=4)&&(decide ((ig ns).count dD<=24)&&(decide ((ig ns).count gu<=8)&&(decide ((ns.drop (ig ns).length).count dD<=12)&& !decide (gu∈ns.drop (ig ns).length))))))
def v9(ns:List Str):Bool:=decide (dD∈ig ns)&&(!decide (gu∈ig ns)&& !decide (gf∈ns))
abbrev nv(ns:List Str):List V:=ns.map V.str
def AF(ns:List Str):(nv ns).length=ns.length:=az ..
def KO(ns:List Str)(j:Nat):fH (nv ns) none (some (j:Int))=nv (ns.take j):=by rw[sI];exact(bI ..).symm
def Xk(ns:List Str)(j:Nat):fH (nv ns) (some (j:Int)) none=nv (ns.drop j):=by rw[q_];exact(bH ..).symm
def yy{ns:List Str}{x:Str}(h:x∈ns):∃j,ns[j]? =some x/\(∀m y,m<j->ns[m]? =some y->y≠x)/\ns.takeWhile (λy=>!decide (y=x))=ns.take j:=by
 induction ns with
 |nil=>cases h
 |cons a ns ih=>
  by_cases e:a=x
  .refine⟨0,by rw[e];rfl,λm y hm=>cJ hm (Nat.not_lt_zero _),?_⟩;rw[aF,aa (by simp[e])];rfl
  .rcases aN.mp h with e2|h
   .exact(e e2.symm).elim
   obtain⟨j,h1,h2,h3⟩:=ih h;refine⟨j+1,h1,λm y hm hy=>?_,?_⟩
   .cases m with
    |zero=>
     have:a=y:=aH hy;rw[<-this];exact e
    |succ m=>exact h2 m y () hy
   .rw[aF,ah (by simp[e]),h3];rfl
section
abbrev QH:Stmt:=top 119
def aE2:dP ["names"] ["names"] (c9 QH):=dW
inductive F1(K:b6)(vs:List V)(H:Hp)(Q:VK)(z3:XK):Prop|m(a ns)(_:vs=[.ref a])(_:cU K H a (nv ns))(_:∀p H',cR H H'->cU K H' p (nv (ig ns))->Q (.ref p) H')
def ya{ns:List Str}{x:Str}{j:Nat}(h1:ns[j]? =some x)(h2:∀m y,m<j->ns[m]? =some y->y≠x):(nv ns)[j]? =some (.str x)/\iW (.str x) (.str x)=true/\∀(m:Nat) (z':V),m<j->(nv ns)[m]? =some z'->iW z' (.str x)=false:=by
 refine⟨by rw[aR,h1];rfl,beq_self_eq_true x,λm z' hm hz=>?_⟩;rw[aR]at hz;obtain⟨y,hy,rfl⟩:=aG.mp hz;have:=h2 m y hm hy;show(y==x)=false;simpa using this
def av3(T:TX P w K mg)(F:dM K "whole_part" "whole_part" QH f fd):dJ P w K mg base cY 1 f fd ["names"] (F1 K):=by
 refine F.oK aE2 λc8 A outer s H vs Q E hr h=>?_;obtain⟨a,ns,rfl,hS,k⟩:=h;refine⟨_,(cX (dh (gD (dj lz eH (pv 0) (by with_unfolding_all rfl)) (fP fX (pv 0) gQ (eY (gk b7 PySem.F.slot_list_index PySem.F.type_list_index yc (pv 0) (cT eH)))) (pv 0)))),?_⟩;refine⟨a,_,rfl,.inl hS,rfl,gY ns,_,rfl,?_⟩;show if inV (.str "point") (nv ns)=true then _ else _;rw[jM];refine dw (λq=>?_) (λq=>?_)
 .have hm:fB∈ns:=aj q;obtain⟨j,h1,h2,h3⟩:=yy hm;obtain⟨i1,i2,i3⟩:=ya h1 h2;refine⟨.inl ⟨rfl,_,hS⟩,a,_,_,j,_,rfl,rfl,hS,rfl,gY ns,i1,i2,i3,(j:Int),rfl,a,_,rfl,hS,?_⟩;rw[KO];refine λp hp=>k p _ (cR.upd hp) (cU.of ?_);rw[cV];unfold ig;rw[h3]
 .have hm:¬fB∈ns:=λz=>q (ak z);refine(k a H (cR.refl H) ?_);have e:ig ns=ns:=by
   unfold ig;have:∀l:List Str,¬fB∈l->l.takeWhile (λx=>!decide (x=fB))=l:=λl=>by
    induction l with
    |nil=>intro _;rfl
    |cons x l ih=>
     intro h;rw[aF,ah (by simp;exact λe=>h (by rw[e];exact aB)),ih λz=>h (aA _ z)]
   exact this ns hm
  rw[e];exact hS
abbrev Q7:Stmt:=top 120
def Pu:dP ["names","whole","behind"] ["names"] (c9 Q7):=dW
inductive OR(K:b6)(vs:List V)(H:Hp)(Q:VK)(z3:XK):Prop|m(a ns)(_:vs=[.ref a])(_:cU K H a (nv ns))(_:ns.length<=300)(_:∀H',cR H H'->Q (.bl (isNum ns)) H')
def BB(n:Nat)(m:Nat):(decide ((m:Int)<(n:Int)))= !decide (n<=m):=by
 rw[bC];simp
def ax9(T:TX P w K mg)(DK:Own P w K mg base cY 1 "whole_part" ["names"] (F1 K))(F:dM K "is_right_number" "is_right_number" Q7 f fd):dJ P w K mg base cY 2 f fd ["names"] (OR K):=by
 refine F.oK Pu λc8 A outer s H vs Q E hr h=>?_;obtain⟨a,ns,rfl,hS,hlen,k⟩:=h;have nd:=Pu.nd;have s0:=cR.refl H;unfold isNum at k;refine⟨_,(cW (dO (PW.pt (mF (dj qV eH (pv 0) (by with_unfolding_all rfl)) (mF (dj iV (gk b7 cN cO qX (pv 0) (cT eH)) cZ) (oE (dj iV (gk b7 cN cO qX (pv 0) (cT eH)) cZ))))) (cX (dh mG)) dX)
  (cW (dN (i:=1) nd (dF DK hr (cT (pv 0))))
  (cW (dN (i:=2) nd (fP fX (pv 0) (eY (eN fD rfl T.fq () (cT (pv 1)))) gQ))
  (cW (dO (PW.pt (mF (dj iV (gk b7 cN cO qX (pv 1) (cT eH)) cZ) (oE (dj iV (gk b7 cN cO qX (pv 1) (cT eH)) cZ)))) (cX (dh mG)) dX)
  (cX (dh (mC (fQ iJ (gk b7 cN cO qX (pv 2) (cT eH)) cZ) (kh (fQ qV eH (pv 2) (by with_unfolding_all rfl)))))))))),?_⟩
 refine⟨a,_,rfl,.inl hS,rfl,gY ns,_,rfl,?_⟩;show if(!inV (.str "place") (nv ns))=true then _ else _;rw[jM];cases h1:decide (dD∈ns)with
 |false=>
  rw[h1,aZ]at k;exact dZ (k H s0)
 |true=>
  rw[h1,aY]at k;refine dB ⟨.inl ⟨rfl,_,hS⟩,a,_,_,rfl,rfl,hS,rfl,gY ns,_,_,rfl,rfl,_,rfl,?_⟩;rw[ue,show(1:Int)=((1:Nat):Int)from rfl,BB];cases h2:decide (ns.count fB<=1)with
  |false=>
   rw[h2,aZ]at k;exact dZ (k H s0)
  |true=>
   rw[h2,aY]at k;refine dB ⟨.inl ⟨rfl,_,hS⟩,a,_,_,rfl,rfl,hS,rfl,gY ns,_,_,rfl,rfl,_,rfl,?_⟩;rw[ue,show(4:Int)=((4:Nat):Int)from rfl,BB];cases h3:decide (ns.count gf<=4)with
   |false=>
    rw[h3,aZ]at k;exact dZ (k H s0)
   |true=>
    rw[h3,aY]at k;refine dB ⟨a,ns,rfl,hS,λp H1 s1 hp=>?_⟩;have xy:=s1.seq hS;refine⟨p,_,rfl,.inl hp,((nv (ig ns)).length:Int),rfl,a,_,rfl,xy,?_⟩;rw[Xk,AF];intro p2 fS;have s2:=cR.upd (o:=.lst (nv (ns.drop (ig ns).length))) fS;have nY:=s2.seq hp;have sm:=s1.trans s2;have hb:cU K (upd H1 p2 (.lst (nv (ns.drop (ig ns).length)))) p2 (nv (ns.drop (ig ns).length)):=cU.of cV;refine⟨.inl ⟨rfl,_,nY⟩,p,_,_,rfl,rfl,nY,rfl,gY _,_,_,rfl,rfl,_,rfl,?_⟩;rw[ue,show(24:Int)=((24:Nat):Int)from rfl,BB];cases h4:decide ((ig ns).count dD<=24)with
    |false=>
     rw[h4,aZ]at k;exact dZ (k _ sm)
    |true=>
     rw[h4,aY]at k;refine dB ⟨.inl ⟨rfl,_,nY⟩,p,_,_,rfl,rfl,nY,rfl,gY _,_,_,rfl,rfl,_,rfl,?_⟩;rw[ue,show(8:Int)=((8:Nat):Int)from rfl,BB];cases h5:decide ((ig ns).count gu<=8)with
     |false=>
      rw[h5,aZ]at k;exact dZ (k _ sm)
     |true=>
      rw[h5,aY]at k;refine dB ⟨.inl ⟨rfl,_,hb⟩,p2,_,_,rfl,rfl,hb,rfl,gY _,_,_,rfl,rfl,_,rfl,?_⟩;rw[ue,show(12:Int)=((12:Nat):Int)from rfl,show decide (((ns.drop (ig ns).length).count dD:Int)<=((12:Nat):Int))=decide ((ns.drop (ig ns).length).count dD<=12)from au.mpr (by omega)];cases h6:decide ((ns.drop (ig ns).length).count dD<=12)with
      |false=>
       rw[h6,aZ]at k;exact dB (k _ sm)
      |true=>
       rw[h6,aY]at k;refine dZ ⟨p2,_,rfl,.inl hb,rfl,gY _,?_⟩;show Q (.bl (!inV (.str "comma") (nv (ns.drop (ig ns).length)))) _;rw[jM];exact k _ sm
abbrev P5:Stmt:=top 121
def ND:dP ["names","whole"] ["names"] (c9 P5):=dW
inductive Nl(K:b6)(vs:List V)(H:Hp)(Q:VK)(z3:XK):Prop|m(a ns)(_:vs=[.ref a])(_:cU K H a (nv ns))(_:∀H',cR H H'->Q (.bl (v9 ns)) H')
def aj9(T:TX P w K mg)(DK:Own P w K mg base cY 1 "whole_part" ["names"] (F1 K))(F:dM K "may_have_exponent" "may_have_exponent" P5 f fd):dJ P w K mg base cY 2 f fd ["names"] (Nl K):=by
 refine F.oK ND λc8 A outer s H vs Q E hr h=>?_;obtain⟨a,ns,rfl,hS,k⟩:=h;have nd:=ND.nd;unfold v9 at k;refine⟨_,(cW (dN (i:=1) nd (dF DK hr (cT (pv 0))))
  (cX (dh (mC (fQ lz eH (pv 1) (by with_unfolding_all rfl)) (mC (fQ qV eH (pv 1) (by with_unfolding_all rfl)) (kh (fQ qV eH (pv 0) (by with_unfolding_all rfl)))))))),?_⟩
 refine⟨a,ns,rfl,hS,λp H1 s1 hp=>?_⟩;have xy:=s1.seq hS;refine⟨p,_,rfl,.inl hp,rfl,gY _,_,rfl,?_⟩;show if inV (.str "place") (nv (ig ns))=true then _ else _;rw[jM];cases h1:decide (dD∈ig ns)with
 |false=>
  rw[h1,aZ]at k;exact dB (k _ s1)
 |true=>
  rw[h1,aY]at k;refine dZ ⟨p,_,rfl,.inl hp,rfl,gY _,_,rfl,?_⟩;show if(!inV (.str "comma") (nv (ig ns)))=true then _ else _;rw[jM];cases h2:decide (gu∈ig ns)with
  |true=>
   rw[h2,Bool.not_true,aZ]at k;exact dB (k _ s1)
  |false=>
   rw[h2,Bool.not_false,aY]at k;refine dZ ⟨a,_,rfl,.inl xy,rfl,gY _,?_⟩;show Q (.bl (!inV (.str "percent") (nv ns))) _;rw[jM];exact k _ s1
end
def dQ(H:Hp)(f:Str)(x:V):V:=match x with
 | .ref a=>(match H a with
  |some (.ins _ _ fs)=>(fs.lookup f).getD .dI
  |_=>.dI)
 |_=>.dI
def p9{H:Hp}{a C dx:Addr}{fs:List (Str×V)}{f:Str}{v:V}(h:H a=some (.ins C dx fs))(hf:fs.lookup f=some v):dQ H f (.ref a)=v:=by
 show(match H a with
  |some (.ins _ _ fs)=>(fs.lookup f).getD .dI
  |_=>.dI)=v
 rw[h];show(fs.lookup f).getD .dI=v;rw[hf];rfl
abbrev Ps(C:Cs)(H0 H:Hp)(as:List Addr)(ps:List Pc):Prop:=A2 (λa p=>∃e,ie C H0 H a p e) as ps
theorem Ps.same{H0 H H':Hp}{as:List Addr}{ps:List Pc}(s:cR H H')(h:Ps C H0 H as ps):Ps C H0 H' as ps:=A2.imp (λ_ _ ⟨e,z⟩=>⟨e,z.same s⟩) h
theorem Ps.mem{H0 H:Hp}:∀{as:List Addr} {ps:List Pc} {x:V},Ps C H0 H as ps->x∈as.map V.ref->∃a p e,x= .ref a/\p∈ps/\ie C H0 H a p e
 |_,_,x,.nil,h=>by cases h
 |_,_,x,.cons ⟨e,z⟩ t,h=>by
  rcases aN.mp h with rfl|h
  .exact⟨_,_,e,rfl,aB,z⟩
  .obtain⟨a,p,e,r1,r2,r3⟩:=Ps.mem t h;exact⟨a,p,e,r1,aA _ r2,r3⟩
theorem Ps.fmap{H0 H:Hp}{sel:V->Option V}{g:Pc->Option V}:∀{as:List Addr} {ps:List Pc},(∀a p e,p∈ps->ie C H0 H a p e->sel (.ref a)=g p)->Ps C H0 H as ps->(as.map V.ref).filterMap sel=ps.filterMap g
 |_,_,_,.nil=>rfl
 |_,_,hg,.cons ⟨e,z⟩ t=>by
  rw[aX,aJ,aJ,hg _ _ _ aB z,Ps.fmap (λa p e hm=>hg a p e (aA _ hm)) t]
def Ps.GP{H0 H:Hp}{sel:V->Option V}{c:Pc->Bool}{as:List Addr}{ps:List Pc}(hg:∀a p e,p∈ps->ie C H0 H a p e->sel (.ref a)=if c p=true then some (.ref a)else none)(h:Ps C H0 H as ps):∃lZ,(as.map V.ref).filterMap sel=lZ.map V.ref/\Ps C H0 H lZ (ps.filter c):=by
 induction h with
 |nil=>exact⟨[],rfl,.nil⟩
 |@cons a p as ps r t ih=>
  obtain⟨e,z⟩:=r;obtain⟨lZ,h1,h2⟩:=ih λa p e hm=>hg a p e (aA _ hm);rw[aX,aJ,hg _ _ _ aB z,List.filter_cons];cases hc:c p with
  |true=>exact⟨a::lZ,by rw[h1];rfl,.cons ⟨e,z⟩ h2⟩
  |false=>exact⟨lZ,h1,h2⟩
def ie.fields{H0 H:Hp}{a:Addr}{p:Pc}{e:Nat}(h:ie C H0 H a p e):∃v dx,H a=some (.ins C.piece dx (m5 (.str p.name) v (.int e)))/\p.val C H0 H v/\dQ H "name" (.ref a)= .str p.name/\dQ H "value" (.ref a)=v:=by
 obtain⟨_,v,⟨dx,h1⟩,h2⟩:=h;exact⟨v,dx,h1,h2,p9 h1 (fu),p9 h1 (jy)⟩
def nu(p:Pc):Bool:=!decide (p.name=gr)&& !decide (p.name=gq)
def isZero:Pc->Bool
 | .sign nm c=>decide (nm=dD)&&decide (c=48)
 |_=>false
def yx(ps:List Pc):Bool:=decide (1<=((ps.filter nu).filter isZero).length)&&(decide (((ps.filter nu).filter isZero).length<=3)&&decide (((ps.filter nu).filter isZero).length=(ps.filter nu).length))
def Named(p:Pc):Prop:=match p with
 | .sign nm _=>nm=dD\/nm=fB\/nm=gu\/nm=gf\/nm=gG
 | .word nm _=>nm=fK\/nm=gZ
 |_=>True
section
abbrev Q5:Stmt:=top 122
def Pr:dP ["pieces","counted","zeros","piece"] ["pieces"] (c9 Q5):=dW
inductive OP(K:b6)(C:Cs)(vs:List V)(H:Hp)(Q:VK)(z3:XK):Prop|m(a as ps H0)(_:vs=[.ref a])(_:cU K H a (as.map V.ref))(_:as.length<=300)(_:Ps C H0 H as ps)(_:(∀p∈ps,Named p))(_:∀H',cR H H'->Q (.bl (yx ps)) H')
def val_zero{H0 H:Hp}{p:Pc}{v:V}(h:p.val C H0 H v)(hn:Named p):∀hs:p.name=dD,Gq v (.int 48)=true/\decide (v= .int 48)=isZero p:=by
 intro hs;cases p with
 |sign nm c=>
  have e:v= .int c.toNat:=h;have:nm=dD:=hs;subst e;refine⟨rfl,?_⟩;show _=(decide (nm=dD)&&decide (c=48));rw[ak this,aY];refine au.mpr ⟨λz=>iu.mpr (V.int.inj z),λz=>by rw[z];rfl⟩
 |word nm n=>
  have hn:nm=fK\/nm=gZ:=hn;have hs:nm=dD:=hs;rcases hn with e|e<;>(rw[e]at hs;exact cJ hs ())
 |text b=>exact cJ (show(iD:Str)=dD from hs) ()
 |exponent c=>exact cJ (show(fc:Str)=dD from hs) ()
 |part l n d=>exact cJ (show(iR:Str)=dD from hs) ()
 |passed l n d=>exact cJ (show(jA:Str)=dD from hs) ()
 |colour k=>exact cJ (show(gr:Str)=dD from hs) ()
 |condition z x=>exact cJ (show(gq:Str)=dD from hs) ()
def Kr{p:Pc}(h:isZero p=true):p.name=dD:=by
 cases p with
 |sign nm c=>
  unfold isZero at h;rw[aE]at h;exact aj h.1
 |_=>cases h
def ax7(T:TX P w K mg)(TP:lB K C.piece)(F:dM K "is_right_exponent" "is_right_exponent" Q5 f fd):dJ P w K mg base cY 1 f fd ["pieces"] (OP K C):=by
 refine F.oK Pr λc8 A outer s H vs Q E hr h=>?_;obtain⟨a,as,ps,H0,rfl,hS,hlen,hP,hN,k⟩:=h;have nd:=Pr.nd;obtain⟨Ud,T_,T8⟩:=T.Uc;refine⟨_,(cW (l_ (i:=1) rfl nd rfl rfl (lD rfl rfl rfl rfl) (gR (pv 0)) (iA (N:=["pieces","counted","zeros","piece"]) (sc:=c9 (top 122)) (own:=[("piece",3)]) ()) (λ_ _ _ _ _=>fF (i:=3) nd (.inr rfl)) (λ_ _ _ _ _=>(mj (dj (show fV _ _ (rN K true)from qV) (show PE _ _ (gT K _ "name")from dH (pv 3) rfl) (i7 T_) (by with_unfolding_all rfl)))) (λ_ _ _ _ _=>(pv 3)))
  (cW (l_ (i:=2) rfl nd rfl rfl (lD rfl rfl rfl rfl) (gR (pv 1)) (iA (N:=["pieces","counted","zeros","piece"]) (sc:=c9 (top 122)) (own:=[("piece",3)]) ()) (λ_ _ _ _ _=>fF (i:=3) nd (.inr rfl)) (λ_ _ _ _ _=>(mj (PW.pt (nh (dj dU (show PE _ _ (gT K _ "name")from dH (pv 3) rfl) eH) (m6 (dj dU (show PE _ _ (gT K _ "value")from dH (pv 3) rfl) (dG T.sJ))))))) (λ_ _ _ _ _=>(pv 3)))
  (cX (dh (mC (vH iJ iJ cZ (eN fD rfl T.fq () (cT (pv 2))) cZ) (kh (fQ dU (eN fD rfl T.fq () (cT (pv 2))) (eN fD rfl T.fq () (cT (pv 1)))))))))),?_⟩
 refine⟨a,rfl,⟨_,hS⟩,λD hD=>i6 (λx=>if inV (dQ H "name" x) [.str "colour",.str "condition"]=true then none else some x) hS hD (by rw[az];lia) ?_ ?_⟩
 .intro x H' hx sm Q1 Q2 h1 h2;obtain⟨b,p,e,rfl,hm,hp⟩:=hP.mem hx;obtain⟨v,dx,hb,hv,f1,f2⟩:=hp.fields;rw[f1]at h1 h2;refine⟨rfl,b,C.piece,dx,_,_,rfl,sm _ _ hb,TP.cl,TP.fz,fu,Ud,_,rfl,.inr (T8 _),rfl,rfl,_,rfl,?_⟩;show if(!inV (.str p.name) [.str "colour",.str "condition"])=true then _ else _;cases hh:inV (.str p.name) [.str "colour",.str "condition"]with
  |true=>exact dB (h2 (by rw[hh];rfl))
  |false=>exact dZ (h1 _ (by rw[hh];rfl))
 .obtain⟨pS,e1,qQ⟩:=Ps.GP (c:=nu) (sel:=λx=>if inV (dQ H "name" x) [.str "colour",.str "condition"]=true then none else some x) (λb p e _ hp=>by
   obtain⟨v,dx,hb,hv,f1,f2⟩:=hp.fields;show(if inV (dQ H "name" (.ref b)) _=true then none else some (V.ref b))=_;rw[f1,show([.str "colour",.str "condition"]:List V)=[gr,gq].map V.str from rfl,jM];unfold nu
   by_cases h1:p.name=gr
   .simp[h1]
   .by_cases h2:p.name=gq
    .simp[h2]
    .simp[h1,h2]) hP
  rw[e1];have s1:=cR.upd (o:=.lst (pS.map V.ref)) hD;have xj:pS.length<=300:=by
   have:=cI List.length e1;rw[az]at this;have h2:=List.length_filterMap_le (λx=>if inV (dQ H "name" x) [.str "colour",.str "condition"]=true then none else some x) (as.map V.ref);rw[az]at h2;lia
  have qP:Ps C H0 (upd H D (.lst (pS.map V.ref))) pS (ps.filter nu):=qQ.same s1;refine⟨D,rfl,⟨_,cU.of cV⟩,λD2 pQ=>i6 (λx=>if dQ H "name" x= .str "place"/\dQ H "value" x= .int 48 then some x else none) (cU.of cV) pQ (by rw[az];lia) ?_ ?_⟩
  .intro x H' hx sm Q1 Q2 h1 h2;obtain⟨b,p,e,rfl,hm,hp⟩:=qQ.mem hx;obtain⟨v,dx,hb,hv,f1,f2⟩:=hp.fields;rw[f1,f2]at h1 h2;have sb:=(s1.trans sm) _ _ hb;refine⟨rfl,b,C.piece,dx,_,_,rfl,sb,TP.cl,TP.fz,fu,rfl,_,rfl,dw (λq=>?_) (λq=>?_)⟩
   .have hs:p.name=dD:=V.str.inj (aj q);obtain⟨z1,z2⟩:=val_zero hv (hN p (bS.mp hm).1) hs;refine⟨b,C.piece,dx,_,_,rfl,sb,TP.cl,TP.jz,jy,z1,_,rfl,dw (λq2=>(h1 _ (ah ⟨by rw[hs],aj q2⟩))) λq2=>h2 (aa λz=>q2 (ak z.2))⟩
   .exact dB (h2 (aa λz=>q (ak z.1)))
  .obtain⟨jw,e2,CF⟩:=Ps.GP (c:=isZero) (sel:=λx=>if dQ H "name" x= .str "place"/\dQ H "value" x= .int 48 then some x else none) (λb p e hm hp=>by
    obtain⟨v,dx,hb,hv,f1,f2⟩:=hp.fields;show(if dQ H "name" (.ref b)=_/\dQ H "value" (.ref b)=_ then some (V.ref b)else none)=_;rw[f1,f2]
    by_cases hs:p.name=dD
    .obtain⟨z1,z2⟩:=val_zero hv (hN p (bS.mp hm).1) hs;rw[<-z2]
     by_cases B0:v= .int 48
     .rw[ah ⟨by rw[hs],B0⟩,ah (ak B0)]
     .rw[aa λz=>B0 z.2,aa λz=>B0 (aj z)]
    .rw[aa λz=>hs (V.str.inj z.1),aa λz=>hs (Kr z)]) qQ
   rw[e2];have s2:=cR.upd (o:=.lst (jw.map V.ref)) pQ;have sm:=s1.trans s2;have q1:cU K (upd (upd H D (.lst (pS.map V.ref))) D2 (.lst (jw.map V.ref))) D (pS.map V.ref):=cU.of (s2 _ _ cV);have q2:cU K (upd (upd H D (.lst (pS.map V.ref))) D2 (.lst (jw.map V.ref))) D2 (jw.map V.ref):=cU.of cV;have l1:=qQ.length;have l2:=CF.length;unfold yx at k;rw[<-l1,<-l2]at k;refine⟨D2,_,rfl,.inl q2,_,_,rfl,rfl,_,rfl,?_⟩;have m1:(pS.map V.ref).length=pS.length:=az ..;have m2:(jw.map V.ref).length=jw.length:=az ..;refine dw (λq=>?_) (λq=>?_)
   .have h1:1<=jw.length:=by
     have:=aj q;lia
    rw[ak h1,aY]at k;refine⟨_,_,rfl,rfl,_,rfl,dw (λq=>?_) (λq=>?_)⟩
    .have h2:jw.length<=3:=by
      have:=aj q;lia
     rw[ak h2,aY]at k;refine⟨D2,_,rfl,.inl q2,D,_,rfl,.inl q1,rfl,?_⟩;have e:decide (V.int (((jw.map V.ref).length:Nat):Int)=V.int (((pS.map V.ref).length:Nat):Int))=decide (jw.length=pS.length):=au.mpr ⟨λz=>by have:=V.int.inj z;lia,λz=>by rw[m1,m2,z]⟩;rw[<-e]at k;exact k _ sm
    .have h2:¬jw.length<=3:=λz=>q (ak ());rw[ao h2,aZ]at k;exact k _ sm
   .have h1:¬1<=jw.length:=λz=>q (ak ());rw[ao h1,aZ]at k;exact⟨_,rfl,dB (k _ sm)⟩
end
def yC(ns:List Str):List Str:=ns.takeWhile λx=>!decide (x=fc)
def qZ(ps:List Pc):Bool:=if fc∈ps.map Pc.name then isNum (yC (ps.map Pc.name))&&(v9 (yC (ps.map Pc.name))&&yx (ps.drop ((yC (ps.map Pc.name)).length+1)))else isNum (ps.map Pc.name)
def mJ:List Str:=[iD,gr,gq]
def qA:List Str:=[iR,gZ,jA]
def oU:List Str:=[dD,fB,gu,gf,fc]
def iN(ps:List Pc):List Str:=(ps.map Pc.name).filter λx=>!decide (x∈mJ)
noncomputable def nD(ps:List Pc):Option Nat:=if iN ps=[]then some 0 else if iN ps=[fK]then some 4 else if(iN ps).all (λx=>decide (x=gG))=true then some 3
 else if(iN ps).all (λx=>decide (x∈qA))=true then some 2 else if(iN ps).all (λx=>decide (x∈oU))=true/\qZ ps=true then some 1 else none
def al1{p:Pc}(h:Named p):PyData.strOk p.name=true:=by
 cases p with
 |sign nm c=>
  show PyData.strOk nm=true;have h:nm=dD\/nm=fB\/nm=gu\/nm=gf\/nm=gG:=h;rcases h with e|e|e|e|e<;>(rw[e];decide+kernel)
 |word nm n=>
  show PyData.strOk nm=true;have h:nm=fK\/nm=gZ:=h;rcases h with e|e<;>(rw[e];decide+kernel)
 |text b=>show PyData.strOk iD=true;decide+kernel
 |exponent c=>show PyData.strOk fc=true;decide+kernel
 |part l n d=>show PyData.strOk iR=true;decide+kernel
 |passed l n d=>show PyData.strOk jA=true;decide+kernel
 |colour k=>show PyData.strOk gr=true;decide+kernel
 |condition z x=>show PyData.strOk gq=true;decide+kernel
theorem filterMap_some{α:Type}(f:α->V):∀l:List α,l.filterMap (λx=>some (f x))=l.map f
 |[]=>rfl
 |a::l=>by rw[aJ,aX,filterMap_some f l]
theorem Ps.drop{H0 H:Hp}{as:List Addr}{ps:List Pc}(h:Ps C H0 H as ps):∀n,Ps C H0 H (as.drop n) (ps.drop n):=by
 induction h with
 |nil=>intro n;rw[List.drop_nil,List.drop_nil];exact .nil
 |@cons a p as ps r t ih=>
  intro n;cases n with
  |zero=>exact .cons r t
  |succ n=>exact ih n
section
def DW{H0 H:Hp}{as:List Addr}{ps:List Pc}(hP:Ps C H0 H as ps):(as.map V.ref).filterMap (λx=>some (dQ H "name" x))=nv (ps.map Pc.name):=by
 rw[Ps.fmap (g:=λp=>some (.str p.name)) (λa p e _ hp=>by
  obtain⟨v,dx,hb,hv,f1,f2⟩:=hp.fields;show some (dQ H "name" (.ref a))=_;rw[f1]) hP,filterMap_some]
 exact(bT ..).symm
abbrev Ro:Stmt:=top 118
def PN:dP ["pieces","names","at","number","piece"] ["pieces"] (c9 Ro):=dW
inductive O8(K:b6)(C:Cs)(vs:List V)(H:Hp)(Q:VK)(z3:XK):Prop|m(a as ps H0)(_:vs=[.ref a])(_:cU K H a (as.map V.ref))(_:as.length<=300)(_:Ps C H0 H as ps)(_:(∀p∈ps,Named p))(_:∀H',cR H H'->Q (.bl (qZ ps)) H')
def az7(T:TX P w K mg)(TP:lB K C.piece)(I_:Own P w K mg base cY 2 "is_right_number" ["names"] (OR K))(Uv:Own P w K mg base cY 2 "may_have_exponent" ["names"] (Nl K))
  (Uw:Own P w K mg base cY 1 "is_right_exponent" ["pieces"] (OP K C))(F:dM K "are_right_digits" "are_right_digits" Ro f fd):dJ P w K mg base cY 3 f fd ["pieces"] (O8 K C):=by
 refine F.oK PN λc8 A outer s H vs Q E hr h=>?_;obtain⟨a,as,ps,H0,rfl,hS,hlen,hP,hN,k⟩:=h;have nd:=PN.nd;refine⟨_,(cW (l_ (i:=1) rfl nd rfl rfl (lD rfl rfl rfl rfl) (gR (pv 0)) (iA (N:=["pieces","names","at","number","piece"]) (sc:=c9 (top 118)) (own:=[("piece",4)]) ()) (λ_ _ _ _ _=>fF (i:=4) nd (.inr rfl)) (λ_ _ _ _ _=>mq) (λ_ _ _ _ _=>(show PE _ _ (gT K _ "name")from dH (pv 4) rfl)))
  (cW (dO (dj qV eH (pv 1) (by with_unfolding_all rfl)) (cX (dh (dF I_ hr (cT (pv 1))))) dX)
  (cW (dN (i:=2) nd (gk b7 PySem.F.slot_list_index PySem.F.type_list_index yc (pv 1) (cT eH)))
  (cW (dN (i:=3) nd (fP fX (pv 1) gQ (eY (pv 2))))
  (cX (dh (mC (dF I_ hr (cT (pv 3))) (mC (dF Uv hr (cT (pv 3))) (kh (dF Uw hr (cT (fP fX (pv 0) (eY (dm fL (pv 2) cZ)) gQ)))))))))))),?_⟩
 refine⟨a,rfl,⟨_,hS⟩,λD hD=>i6 (λx=>some (dQ H "name" x)) hS hD (by rw[az];lia) ?_ ?_⟩
 .intro x H' hx sm Q1 Q2 h1 h2;obtain⟨b,p,e,rfl,hm,hp⟩:=hP.mem hx;obtain⟨v,dx,hb,hv,f1,f2⟩:=hp.fields;rw[f1]at h1;exact⟨rfl,b,C.piece,dx,_,_,rfl,sm _ _ hb,TP.cl,TP.fz,fu,h1 _ rfl⟩
 .rw[DW hP];have hl:=hP.length;have s1:=cR.upd (o:=.lst (nv (ps.map Pc.name))) hD;have gP:cU K (upd H D (.lst (nv (ps.map Pc.name)))) D (nv (ps.map Pc.name)):=cU.of cV;unfold qZ at k;refine⟨D,_,rfl,.inl gP,rfl,gY _,_,rfl,?_⟩;show if(!inV (.str "exponent") (nv (ps.map Pc.name)))=true then _ else _;rw[jM]
  by_cases hx:fc∈ps.map Pc.name
  .rw[ah hx]at k;rw[ak hx];obtain⟨j,i1,i2,i3⟩:=yy hx;obtain⟨g1,g2,g3⟩:=ya i1 i2;have n6:=(aD.mp i1).1;have eb:yC (ps.map Pc.name)=(ps.map Pc.name).take j:=i3;rw[eb]at k;rw[az]at n6;rw[show((ps.map Pc.name).take j).length=j by rw[aW,az];lia]at k;refine dB ⟨.inl ⟨rfl,_,gP⟩,D,_,_,j,_,rfl,rfl,gP,rfl,gY _,g1,g2,g3,?_⟩;refine⟨(j:Int),rfl,D,_,rfl,gP,?_⟩;rw[KO];intro p2 fS;have s2:=cR.upd (o:=.lst (nv ((ps.map Pc.name).take j))) fS;have pQ:cU K (upd (upd H D (.lst (nv (ps.map Pc.name)))) p2 (.lst (nv ((ps.map Pc.name).take j)))) p2 (nv ((ps.map Pc.name).take j)):=cU.of cV;have gV:=s1.trans s2;refine⟨p2,_,rfl,pQ,(by rw[aW,az];lia),λH3 s3=>?_⟩;have f9:=gV.trans s3;refine⟨_,rfl,?_⟩;cases h1:isNum ((ps.map Pc.name).take j)with
   |false=>
    rw[h1,aZ]at k;exact dB (k _ f9)
   |true=>
    rw[h1,aY]at k;refine dZ ⟨p2,_,rfl,s3.seq pQ,λH4 s4=>?_⟩;have iS:=f9.trans s4;refine⟨_,rfl,?_⟩;cases h2:v9 ((ps.map Pc.name).take j)with
    |false=>
     rw[h2,aZ]at k;exact dB (k _ iS)
    |true=>
     rw[h2,aY]at k;have ec:fH (as.map V.ref) (some ((j:Int)+1)) none=(as.drop (j+1)).map V.ref:=by
      have:=q_ (as.map V.ref) (j+1);rw[<-bH]at this;exact this
     refine dZ ⟨_,_,rfl,rfl,(j:Int)+1,rfl,a,_,rfl,iS.seq hS,?_⟩;rw[ec];intro p5 pM;have s5:=cR.upd (o:=.lst ((as.drop (j+1)).map V.ref)) pM;have pD:=iS.trans s5;exact⟨p5,as.drop (j+1),ps.drop (j+1),H0,rfl,cU.of cV,(by rw[aQ];lia),(hP.same pD).drop _,λp hp=>hN p (List.mem_of_mem_drop hp),λH6 s6=>k H6 (pD.trans s6)⟩
  .rw[aa hx]at k;rw[ao hx];exact dZ ⟨D,_,rfl,gP,(by rw[az];lia),λH2 s2=>k H2 (s1.trans s2)⟩
abbrev R7:Stmt:=top 117
def QF:dP ["pieces","names","piece","name"] ["pieces"] (c9 R7):=dW
inductive Gp(K:b6)(C:Cs)(CN:Addr)(vs:List V)(H:Hp)(Q:VK)(E:XK):Prop|m(a as ps H0)(_:vs=[.ref a])(_:cU K H a (as.map V.ref))(_:as.length<=300)(_:Ps C H0 H as ps)(_:(∀p∈ps,Named p))(_:(∀H',cR H H'->nD ps=none->E (.ref CN) none H'))(_:∀k H',cR H H'->nD ps=some k->Q (.int (k:Nat)) H')
def aG4(T:TX P w K mg)(TP:lB K C.piece)(j4:OwnCls "NoPicture" CN bm newId mg base)(FB:ExcBaseFacts B newId lE bm)(UC:Own P w K mg base cY 3 "are_right_digits" ["pieces"] (O8 K C))
  (F:dM K "find_kind" "find_kind" R7 f fd):dJ P w K mg base (fO P w CN) 4 f fd ["pieces"] (Gp K C CN):=by
 refine F.oX QF λc8 A outer s H vs Q E hr h xk hp=>?_;obtain⟨a,as,ps,H0,rfl,hS,hlen,hP,hN,k0,k1⟩:=h;have nd:=QF.nd;have iG:=hr.units;obtain⟨Jt,V9,Dt⟩:=T.Wj;obtain⟨JJ,WI,DF⟩:=T.W0;obtain⟨Jk,VL,Dq⟩:=T.VW;have Dt:∀H,e_ K H Jt (mJ.map V.str):=Dt;have DF:∀H,e_ K H JJ (qA.map V.str):=DF;have Dq:∀H,e_ K H Jk (oU.map V.str):=Dq;refine⟨_,(cW (l_ (i:=1) rfl nd rfl rfl (lD rfl rfl rfl rfl) (gR (pv 0)) (iA (N:=["pieces","names","piece","name"]) (sc:=c9 (top 117)) (own:=[("piece",2)]) ()) (λ_ _ _ _ _=>fF (i:=2) nd (.inr rfl)) (λ_ _ _ _ _=>(mj (dj (show fV _ _ (rN K true)from qV) (show PE _ _ (gT K _ "name")from dH (pv 2) rfl) (i7 V9) (by with_unfolding_all rfl)))) (λ_ _ _ _ _=>(show PE _ _ (gT K _ "name")from dH (pv 2) rfl)))
  (cW (dO (dj (ql iG) (pv 1) (fJ ir)) (cX (dh (dG T.Jr))) dX)
  (cW (dO (dj (ql iG) (pv 1) (fJ (cT eH))) (cX (dh (dG T.Yx))) dX)
  (cW (dO (iH (eN (FQ rfl) rfl T.Gb () (cT (nk rfl nd (gR (pv 1)) (iA (N:=["pieces","names","piece","name"]) (sc:=c9 (top 117)) (own:=[("name",3)]) ()) (λ_ _ _ _ _=>fF (i:=3) nd (.inr rfl)) (λ_ _ _ _ _=>mq) (λ_ _ _ _ _=>(fQ dU (pv 3) eH)))))) (cX (dh (dG T.As))) dX)
  (cW (dO (iH (eN (FQ rfl) rfl T.Gb () (cT (nk rfl nd (gR (pv 1)) (iA (N:=["pieces","names","piece","name"]) (sc:=c9 (top 117)) (own:=[("name",3)]) ()) (λ_ _ _ _ _=>fF (i:=3) nd (.inr rfl)) (λ_ _ _ _ _=>mq) (λ_ _ _ _ _=>(fQ (show fV _ _ (rN K false)from lz) (pv 3) (i7 WI) (by with_unfolding_all rfl))))))) (cX (dh (dG T.Jb))) dX)
  (cW (dO (PW.pt (nh (iH (eN (FQ rfl) rfl T.Gb () (cT (nk rfl nd (gR (pv 1)) (iA (N:=["pieces","names","piece","name"]) (sc:=c9 (top 117)) (own:=[("name",3)]) ()) (λ_ _ _ _ _=>fF (i:=3) nd (.inr rfl)) (λ_ _ _ _ _=>mq) (λ_ _ _ _ _=>(fQ (show fV _ _ (rN K false)from lz) (pv 3) (i7 VL) (by with_unfolding_all rfl))))))) (m6 (iH (dF UC hr (cT (pv 0))))))) (cX (dh (dG T.L8))) dX)
  (cX (mZ j4 FB rfl xk rfl (cT eH))))))))),?_⟩
 refine⟨a,rfl,⟨_,hS⟩,λD hD=>i6 (λx=>if inV (dQ H "name" x) (mJ.map V.str)=true then none else some (dQ H "name" x)) hS hD (by rw[az];lia) ?_ ?_⟩
 .intro x H' hx sm Q1 Q2 h1 h2;obtain⟨b,p,e,rfl,hm,hp⟩:=hP.mem hx;obtain⟨v,dx,hb,hv,f1,f2⟩:=hp.fields;rw[f1]at h1 h2;refine⟨rfl,b,C.piece,dx,_,_,rfl,sm _ _ hb,TP.cl,TP.fz,fu,Jt,_,rfl,.inr (Dt _),rfl,gY _,_,rfl,?_⟩;show if(!inV (.str p.name) (mJ.map V.str))=true then _ else _;cases hh:inV (.str p.name) (mJ.map V.str)with
  |true=>exact dB (h2 (by rw[hh];rfl))
  |false=>exact dZ ⟨b,C.piece,dx,_,_,rfl,sm _ _ hb,TP.cl,TP.fz,fu,h1 _ (by rw[hh];rfl)⟩
 .have en:(as.map V.ref).filterMap (λx=>if inV (dQ H "name" x) (mJ.map V.str)=true then none else some (dQ H "name" x))=nv (iN ps):=by
   rw[Ps.fmap (g:=λp=>if decide (p.name∈mJ)=true then none else some (.str p.name)) (λa p e _ hp=>by
    obtain⟨v,dx,hb,hv,f1,f2⟩:=hp.fields;show(if inV (dQ H "name" (.ref a)) _=true then none else some (dQ H "name" (.ref a)))=_;rw[f1,jM]) hP]
   unfold iN nv;clear hP hN k0 k1
   induction ps with
   |nil=>rfl
   |cons p ps ih=>
    rw[aJ,aX,List.filter_cons]
    by_cases h:p.name∈mJ
    .rw[ah (ak h),aa (by simp[h])];exact ih
    .rw[aa (by simp[h]),ah (by simp[h]),aX,<-ih]
  rw[en];have hok:∀x∈iN ps,PyData.strOk x=true:=λx hx=>by
   obtain⟨p,hp,rfl⟩:=bJ.mp (bS.mp hx).1;exact al1 (hN p hp)
  have hkl:(iN ps).length<=300:=by
   have h1:=List.length_filter_le (λx=>!decide (x∈mJ)) (ps.map Pc.name);have h2:=hP.length;rw[az]at h1;unfold iN;lia
  have s1:=cR.upd (o:=.lst (nv (iN ps))) hD;have gP:cU K (upd H D (.lst (nv (iN ps)))) D (nv (iN ps)):=cU.of cV;generalize u6:iN ps=ks at*;refine⟨aP _,λp2 fS=>?_⟩;have s2:=cR.upd (o:=.lst []) fS;refine⟨_,_,Bk (s2.seq gP),Bk (l:=[]) (cU.of cV),DN hok,rfl,?_⟩;rw[LR];have gV:=s1.trans s2;refine⟨_,rfl,dw (λq=>?_) (λq=>?_)⟩
  .exact k1 0 _ gV (by unfold nD;rw[u6,ah (aj q)])
  have n1:¬ks=[]:=λz=>q (ak z);refine⟨(),λp3 gB=>?_⟩;have s3:=cR.upd (o:=.lst [V.str "general"]) gB;have jY:=s3.seq (s2.seq gP);refine⟨_,_,Bk jY,Bk (l:=[fK]) (cU.of cV),DN hok,DN (),?_⟩;rw[LR];have f9:=gV.trans s3;refine⟨_,rfl,dw (λq=>?_) (λq=>?_)⟩
  .exact k1 4 _ f9 (by unfold nD;rw[u6,aa n1,ah (aj q)])
  have n2:¬ks=[fK]:=λz=>q (ak z);have aQ6:(nv ks).filterMap (λx=>some (V.bl (decide (x= .str "at"))))=(ks.map λx=>decide (x=gG)).map V.bl:=by
   rw[filterMap_some,bT,bT];refine cC λz _=>cI V.bl (au.mpr ⟨λe=>V.str.inj e,λe=>by rw[e]⟩)
  refine⟨D,rfl,⟨_,jY⟩,λD4 zV=>i6 (λx=>some (V.bl (decide (x= .str "at")))) jY zV (by rw[AF];lia) ?_ ?_⟩
  .intro x H' hx sm Q1 Q2 h1 h2;obtain⟨z,hz,rfl⟩:=bJ.mp hx;exact⟨rfl,rfl,h1 _ rfl⟩
  rw[aQ6];have s4:=cR.upd (o:=.lst ((ks.map λx=>decide (x=gG)).map V.bl)) zV;have iS:=f9.trans s4;have GK:=s4.seq jY;refine⟨D4,_,rfl,cU.of cV,_,rfl,?_⟩;rw[List.all_map];refine dw (λq=>?_) (λq=>?_)
  .exact k1 3 _ iS (by unfold nD;rw[u6,aa n1,aa n2,ah (show ks.all (λx=>decide (x=gG))=true from q)])
  have n3:¬ks.all (λx=>decide (x=gG))=true:=q;have RP:∀l:List Str,(nv ks).filterMap (λx=>some (V.bl (inV x (l.map V.str))))=(ks.map λx=>decide (x∈l)).map V.bl:=λl=>by
   rw[filterMap_some,bT,bT];exact cC λz _=>cI V.bl (jM z l)
  refine⟨D,rfl,⟨_,GK⟩,λD5 zU=>i6 (λx=>some (V.bl (inV x (qA.map V.str)))) GK zU (by rw[AF];lia) ?_ ?_⟩
  .intro x H' hx sm Q1 Q2 h1 h2;obtain⟨z,hz,rfl⟩:=bJ.mp hx;exact⟨rfl,JJ,_,rfl,.inr (DF _),rfl,gY _,h1 _ rfl⟩
  rw[RP];have s5:=cR.upd (o:=.lst ((ks.map λx=>decide (x∈qA)).map V.bl)) zU;have pD:=iS.trans s5;have RM:=s5.seq GK;refine⟨D5,_,rfl,cU.of cV,_,rfl,?_⟩;rw[List.all_map];refine dw (λq=>?_) (λq=>?_)
  .exact k1 2 _ pD (by unfold nD;rw[u6,aa n1,aa n2,aa n3,ah (show ks.all (λx=>decide (x∈qA))=true from q)])
  have n4:¬ks.all (λx=>decide (x∈qA))=true:=q;refine⟨D,rfl,⟨_,RM⟩,λD6 Tf=>i6 (λx=>some (V.bl (inV x (oU.map V.str)))) RM Tf (by rw[AF];lia) ?_ ?_⟩
  .intro x H' hx sm Q1 Q2 h1 h2;obtain⟨z,hz,rfl⟩:=bJ.mp hx;exact⟨rfl,Jk,_,rfl,.inr (Dq _),rfl,gY _,h1 _ rfl⟩
  rw[RP];have s6:=cR.upd (o:=.lst ((ks.map λx=>decide (x∈oU)).map V.bl)) Tf;have s_:=pD.trans s6;refine⟨D6,_,rfl,cU.of cV,_,rfl,?_⟩;rw[List.all_map];refine dw (λq=>?_) (λq=>?_)
  .refine⟨a,as,ps,H0,rfl,s_.seq hS,hlen,hP.same s_,hN,λH7 s7=>⟨_,rfl,dw (λq2=>?_) (λq2=>?_)⟩⟩
   .exact k1 1 _ (s_.trans s7) (by unfold nD;rw[u6,aa n1,aa n2,aa n3,aa n4,ah (show ks.all (λx=>decide (x∈oU))=true/\qZ ps=true from⟨q,q2⟩)])
   .exact⟨(),k0 _ (s_.trans s7) (by unfold nD;rw[u6,aa n1,aa n2,aa n3,aa n4,aa λz=>q2 z.2])⟩
  .exact dB ⟨(),k0 _ s_ (by unfold nD;rw[u6,aa n1,aa n2,aa n3,aa n4,aa λz=>q z.1])⟩
end
def oq(v1 v2 v3 v4:V):List (Str×V):=(eG "pieces" v4 (eG "condition" v3 (eG "kind" v2 (eG "colour" v1 []))))
def IY{v1 v2 v3 v4:V}:(oq v1 v2 v3 v4).lookup ("colour":Str)=some v1:=by
 unfold oq;rw[eO,aa (),eO,aa (),eO,aa (),eO,ah rfl]
def vo{v1 v2 v3 v4:V}:(oq v1 v2 v3 v4).lookup ("kind":Str)=some v2:=by
 unfold oq;rw[eO,aa (),eO,aa (),eO,ah rfl]
def xO{v1 v2 v3 v4:V}:(oq v1 v2 v3 v4).lookup ("condition":Str)=some v3:=by
 unfold oq;rw[eO,aa (),eO,ah rfl]
def Af{v1 v2 v3 v4:V}:(oq v1 v2 v3 v4).lookup ("pieces":Str)=some v4:=by
 unfold oq;rw[eO,ah rfl]
structure rY(K:b6)(C:Addr):Prop where
 cl:lq K C
 vJ:gz K C "colour"
 vZ:gz K C "kind"
 xW:gz K C "condition"
 sf:gz K C "pieces"
def YC(C:Addr)(H:Hp)(a:Addr)(v1 v2 v3 v4:V):Prop:=∃dx,H a=some (.ins C dx (oq v1 v2 v3 v4))
abbrev J5:Stmt:=inClass (top 113) 0
inductive DU(C:Addr)(vs:List V)(H:Hp)(Q:VK)(z3:XK):Prop|m(p dx:Addr)(v1 v2 v3 v4:V)(_:vs=[.ref p,v1,v2,v3,v4])(_:H p=some (.ins C dx []))(_:Q .dI (upd H p (.ins C dx (oq v1 v2 v3 v4))))
def X7:dP ["self","colour","kind","condition","pieces"] ["self","colour","kind","condition","pieces"] (c9 J5):=dW
def X_{P:Program}{w:World}{K:b6}{mg:Str->Option Value}{base:Heap}{f C:Addr}(T:rY K C)(F:dM K "__init__" "Section.__init__" J5 f fd):dJ P w K mg base cY 1 f fd ["self","colour","kind","condition","pieces"] (DU C):=by
 refine F.oK X7 λc8 A outer s H vs Q E hr h=>?_;obtain⟨p,dx,v1,v2,v3,v4,rfl,hp,k⟩:=h;refine⟨_,(cW (iC (pv 0) (pv 1) rfl) (cW (iC (pv 0) (pv 2) rfl) (cW (iC (pv 0) (pv 3) rfl) (cX (iC (pv 0) (pv 4) rfl))))),?_⟩;refine⟨p,C,dx,[],rfl,hp,T.cl,T.vJ,(by show 0<1000;decide),?_⟩;refine⟨p,C,dx,_,rfl,cV,T.cl,T.vZ,(by show 1<1000;decide),?_⟩;refine⟨p,C,dx,_,rfl,cV,T.cl,T.xW,(by show 2<1000;decide),?_⟩;refine⟨p,C,dx,_,rfl,cV,T.cl,T.sf,(by show 3<1000;decide),?_⟩;rw[jd,jd,jd];exact k
structure eZ where
 colour:Nat
 kind:Nat
 cond:Option (Str×Int)
 ps:List Pc
def g9:Pc->Option Nat
 | .colour k=>some k
 |_=>none
def jN:Pc->Option (Str×Int)
 | .condition z x=>some (z,x)
 |_=>none
noncomputable def nB(ps:List Pc):Option eZ:=if 1<(ps.filterMap g9).length\/1<(ps.filterMap jN).length then none else(nD ps).map λk=>⟨(ps.filterMap g9).sum,k,(ps.filterMap jN).head?,ps⟩
def oV(C:Cs)(H:Hp)(v:V):Option (Str×Int)->Prop
 |none=>v= .dI
 |some x=>∃q,v= .ref q/\xV C.condition H q (.str x.1) (.int x.2)
inductive kR(C:Cs)(CS:Addr)(H0 H:Hp)(a:Addr)(cs:eZ):Prop|m(v pl)(_:YC CS H a (.int cs.colour) (.int cs.kind) v (.ref pl))(_:oV C H v cs.cond)(_:lC C H0 H pl cs.ps)
def oV.same{H H':Hp}{v:V}{o:Option (Str×Int)}(s:cR H H')(h:oV C H v o):oV C H' v o:=by
 cases o with
 |none=>exact h
 |some x=>
  obtain⟨q,e,dx,h⟩:=h;exact⟨q,e,dx,s _ _ h⟩
theorem kR.same{CS:Addr}{H0 H H':Hp}{a:Addr}{cs:eZ}(s:cR H H')(h:kR C CS H0 H a cs):kR C CS H0 H' a cs:=by
 obtain⟨v,pl,⟨dx,h1⟩,h2,h3⟩:=h;exact⟨v,pl,⟨dx,s _ _ h1⟩,h2.same s,h3.to (λ_ _ z _=>z) s⟩
def oV.off{H:Hp}{D:Addr}{l:List V}{o':HO}{v:V}{o:Option (Str×Int)}(hD:H D=some (.lst l))(h:oV C H v o):oV C (upd H D o') v o:=by
 cases o with
 |none=>exact h
 |some x=>
  obtain⟨q,e,dx,h⟩:=h;refine⟨q,e,dx,?_⟩;rw[eK (λe=>by rw[e,hD]at h;cases h)];exact h
theorem kR.off{CS:Addr}{H0 H:Hp}{a D:Addr}{cs:eZ}{l:List V}{o o':HO}(h0:H0 D=some o)(hD:H D=some (.lst l))(h:kR C CS H0 H a cs):kR C CS H0 (upd H D o') a cs:=by
 obtain⟨v,pl,⟨dx,h1⟩,h2,h3⟩:=h;refine⟨v,pl,⟨dx,?_⟩,h2.off hD,h3.off h0⟩;rw[eK (λe=>by rw[e,hD]at h1;cases h1)];exact h1
def kR.old{CS:Addr}{H0 H1 H:Hp}{a:Addr}{cs:eZ}(f:∀x,H0 x=none->H1 x=none)(h:kR C CS H0 H a cs):kR C CS H1 H a cs:=by
 obtain⟨v,pl,h1,h2,h3⟩:=h;exact⟨v,pl,h1,h2,h3.to (λx _ z _=>f x z) (cR.refl H)⟩
def WG{p:Pc}(h:Named p)(e:p.name=gr):∃k,p= .colour k:=by
 cases p with
 |colour k=>exact⟨k,rfl⟩
 |sign nm c=>
  have h:nm=dD\/nm=fB\/nm=gu\/nm=gf\/nm=gG:=h;have e:nm=gr:=e;rcases h with z|z|z|z|z<;>(rw[z]at e;exact cJ e ())
 |word nm n=>
  have h:nm=fK\/nm=gZ:=h;have e:nm=gr:=e;rcases h with z|z<;>(rw[z]at e;exact cJ e ())
 |text b=>exact cJ (show(iD:Str)=gr from e) ()
 |exponent c=>exact cJ (show(fc:Str)=gr from e) ()
 |part l n d=>exact cJ (show(iR:Str)=gr from e) ()
 |passed l n d=>exact cJ (show(jA:Str)=gr from e) ()
 |condition z x=>exact cJ (show(gq:Str)=gr from e) ()
def Vk{p:Pc}(h:Named p)(e:p.name=gq):∃z x,p= .condition z x:=by
 cases p with
 |condition z x=>exact⟨z,x,rfl⟩
 |sign nm c=>
  have h:nm=dD\/nm=fB\/nm=gu\/nm=gf\/nm=gG:=h;have e:nm=gq:=e;rcases h with z|z|z|z|z<;>(rw[z]at e;exact cJ e ())
 |word nm n=>
  have h:nm=fK\/nm=gZ:=h;have e:nm=gq:=e;rcases h with z|z<;>(rw[z]at e;exact cJ e ())
 |text b=>exact cJ (show(iD:Str)=gq from e) ()
 |exponent c=>exact cJ (show(fc:Str)=gq from e) ()
 |part l n d=>exact cJ (show(iR:Str)=gq from e) ()
 |passed l n d=>exact cJ (show(jA:Str)=gq from e) ()
 |colour k=>exact cJ (show(gr:Str)=gq from e) ()
def Zw{H0 H:Hp}{as:List Addr}{ps:List Pc}(hP:Ps C H0 H as ps)(hN:∀p∈ps,Named p):(as.map V.ref).filterMap (λx=>if dQ H "name" x= .str "colour" then some (dQ H "value" x)else none)=((ps.filterMap g9).map λ(k:Nat)=>(k:Int)).map V.int:=by
 rw[Ps.fmap (g:=λp=>(g9 p).map λk=>V.int (k:Nat)) (λa p e hm hp=>by
  obtain⟨v,dx,hb,hv,f1,f2⟩:=hp.fields;show(if dQ H "name" (.ref a)=_ then some (dQ H "value" (.ref a))else none)=_;rw[f1,f2]
  by_cases h:p.name=gr
  .obtain⟨k,rfl⟩:=WG (hN p hm) h;rw[ah (show V.str (Pc.colour k).name=V.str "colour" from rfl),show v= .int k from hv];rfl
  .rw[aa λz=>h (V.str.inj z)];cases p with
   |colour k=>exact(h rfl).elim
   |_=>rfl) hP,bT]
 clear hP hN
 induction ps with
 |nil=>rfl
 |cons p ps ih=>
  rw[aJ,aJ];cases g9 p with
  |none=>exact ih
  |some k=>
   show V.int k::_=V.int k::_;rw[ih]
def Yt{H0 H:Hp}{as:List Addr}{ps:List Pc}(hP:Ps C H0 H as ps)(hN:∀p∈ps,Named p):∃vs,(as.map V.ref).filterMap (λx=>if dQ H "name" x= .str "condition" then some (dQ H "value" x)else none)=vs/\A2 (λv x=>oV C H v (some x)) vs (ps.filterMap jN):=by
 induction hP with
 |nil=>exact⟨[],rfl,.nil⟩
 |@cons a p as ps r t ih=>
  obtain⟨e,hp⟩:=r;obtain⟨vs,h1,h2⟩:=ih λp hp=>hN p (aA _ hp);obtain⟨v,dx,hb,hv,f1,f2⟩:=hp.fields;rw[aX,aJ,aJ]
  by_cases h:p.name=gq
  .obtain⟨z,x,rfl⟩:=Vk (hN p aB) h;have e1:(if dQ H "name" (.ref a)= .str "condition" then some (dQ H "value" (.ref a))else none)=some v:=by rw[f1,f2,ah (show V.str (Pc.condition z x).name=V.str "condition" from rfl)]
   rw[e1];obtain⟨q,eq,_,hc⟩:=hv;exact⟨v::vs,by rw[h1],.cons ⟨q,eq,hc⟩ h2⟩
  .have e1:(if dQ H "name" (.ref a)= .str "condition" then some (dQ H "value" (.ref a))else none)=none:=by rw[f1,aa λz=>h (V.str.inj z)]
   have e2:jN p=none:=by
    cases p with
    |condition z x=>exact(h rfl).elim
    |_=>rfl
   rw[e1,e2];exact⟨vs,h1,h2⟩
def sum_ints(l:List Nat):(l.map λ(k:Nat)=>(k:Int)).sum=((l.sum:Nat):Int):=by
 induction l with
 |nil=>rfl
 |cons a l ih=>
  rw[aX,List.sum_cons,List.sum_cons,ih];lia
section
abbrev P1:Stmt:=top 116
def NC:dP ["pieces","colours","conditions","condition","piece"] ["pieces"] (c9 P1):=dW
inductive Nj(K:b6)(C:Cs)(CS CN:Addr)(vs:List V)(H:Hp)(Q:VK)(E:XK):Prop|m(a ps H0)(_:vs=[.ref a])(_:lC C H0 H a ps)(_:(∀p∈ps,Named p))(_:(∀H',cR H H'->nB ps=none->E (.ref CN) none H'))(_:∀b cs H',cR H H'->nB ps=some cs->kR C CS H0 H' b cs->Q (.ref b) H')
def aj7{f CS:Addr}(T:TX P w K mg)(TP:lB K C.piece)(j4:OwnCls "NoPicture" CN bm newId mg base)(FB:ExcBaseFacts B newId lE bm)(XW:Own P w K mg base (fO P w CN) 4 "find_kind" ["pieces"] (Gp K C CN))
  (ZO:jD P w K mg base cY 1 CS "Section" ["self","colour","kind","condition","pieces"] (DU CS))(F:dM K "make_section" "make_section" P1 f fd):dJ P w K mg base (fO P w CN) 5 f fd ["pieces"] (Nj K C CS CN):=by
 refine F.oX NC λc8 A outer s H vs Q E hr h xk hp=>?_;obtain⟨a,ps,H0,rfl,⟨zJ,as,hA,hlen,hP⟩,hN,k0,k1⟩:=h;have nd:=NC.nd;have hP:Ps C H0 H as ps:=hP;have hS:cU K H a (as.map V.ref):=cU.of hA;refine⟨_,(cW (l_ (i:=1) rfl nd rfl rfl (lD rfl rfl rfl rfl) (gR (pv 0)) (iA (N:=["pieces","colours","conditions","condition","piece"]) (sc:=c9 (top 116)) (own:=[("piece",4)]) ()) (λ_ _ _ _ _=>fF (i:=4) nd (.inr rfl)) (λ_ _ _ _ _=>(mj (dj dU (show PE _ _ (gT K _ "name")from dH (pv 4) rfl) eH))) (λ_ _ _ _ _=>(show PE _ _ (gT K _ "value")from dH (pv 4) rfl)))
  (cW (l_ (i:=2) rfl nd rfl rfl (lD rfl rfl rfl rfl) (gR (pv 0)) (iA (N:=["pieces","colours","conditions","condition","piece"]) (sc:=c9 (top 116)) (own:=[("piece",4)]) ()) (λ_ _ _ _ _=>fF (i:=4) nd (.inr rfl)) (λ_ _ _ _ _=>(mj (dj dU (show PE _ _ (gT K _ "name")from dH (pv 4) rfl) eH))) (λ_ _ _ _ _=>(show PE _ _ (gT K _ "value")from dH (pv 4) rfl)))
  (cW (dO (PW.pt (mF (dj iV (eN fD rfl T.fq () (cT (pv 1))) cZ) (oE (dj iV (eN fD rfl T.fq () (cT (pv 2))) cZ)))) (cX (mZ j4 FB rfl xk rfl (cT eH))) dX)
  (cW (dN (i:=3) nd (gD (dj dU (eN fD rfl T.fq () (cT (pv 2))) cZ) (fM fW (pv 2) cZ (λ_ _=>rfl)) sH))
  (cX (dh (iQ ZO hr (c_ (eN (Of rfl) rfl T.Qj () (cT (pv 1))) (c_ (kg XW (hr.mono ()) (kQ xk (λ_ z=>z)) (cT (pv 0))) (c_ (pv 3) (cT (pv 0)))))))))))),?_⟩
 refine⟨a,rfl,⟨_,hS⟩,λD hD=>i6 (λx=>if dQ H "name" x= .str "colour" then some (dQ H "value" x)else none) hS hD (by rw[az];lia) ?_ ?_⟩
 .intro x H' hx sm Q1 Q2 h1 h2;obtain⟨b,p,e,rfl,hm,hp⟩:=hP.mem hx;obtain⟨v,dx,hb,hv,f1,f2⟩:=hp.fields;rw[f1,f2]at h1;rw[f1]at h2;refine⟨rfl,b,C.piece,dx,_,_,rfl,sm _ _ hb,TP.cl,TP.fz,fu,rfl,_,rfl,dw (λq=>?_) (λq=>?_)⟩
  .exact⟨b,C.piece,dx,_,_,rfl,sm _ _ hb,TP.cl,TP.jz,jy,h1 _ (ah (aj q))⟩
  .exact h2 (aa λz=>q (ak z))
 rw[Zw hP hN];have s1:=cR.upd (o:=.lst (((ps.filterMap g9).map λ(k:Nat)=>(k:Int)).map V.int)) hD;have xy:=s1.seq hS;have qQ:=hP.same s1;have gP:cU K (upd H D (.lst (((ps.filterMap g9).map λ(k:Nat)=>(k:Int)).map V.int))) D (((ps.filterMap g9).map λ(k:Nat)=>(k:Int)).map V.int):=cU.of cV;obtain⟨cv,ec,SV⟩:=Yt qQ hN;have iU:cv.length<=300:=by
  have h1:=List.length_filterMap_le (λx=>if dQ (upd H D (.lst (((ps.filterMap g9).map λ(k:Nat)=>(k:Int)).map V.int))) "name" x= .str "condition" then some (dQ (upd H D (.lst (((ps.filterMap g9).map λ(k:Nat)=>(k:Int)).map V.int))) "value" x)else none) (as.map V.ref);rw[ec,az]at h1;lia
 refine⟨a,rfl,⟨_,xy⟩,λD2 pQ=>i6 (λx=>if dQ (upd H D (.lst (((ps.filterMap g9).map λ(k:Nat)=>(k:Int)).map V.int))) "name" x= .str "condition" then some (dQ (upd H D (.lst (((ps.filterMap g9).map λ(k:Nat)=>(k:Int)).map V.int))) "value" x)else none) xy pQ (by rw[az];lia) ?_ ?_⟩
 .intro x H' hx sm Q1 Q2 h1 h2;obtain⟨b,p,e,rfl,hm,hp⟩:=qQ.mem hx;obtain⟨v,dx,hb,hv,f1,f2⟩:=hp.fields;rw[f1,f2]at h1;rw[f1]at h2;refine⟨rfl,b,C.piece,dx,_,_,rfl,sm _ _ hb,TP.cl,TP.fz,fu,rfl,_,rfl,dw (λq=>?_) (λq=>?_)⟩
  .exact⟨b,C.piece,dx,_,_,rfl,sm _ _ hb,TP.cl,TP.jz,jy,h1 _ (ah (aj q))⟩
  .exact h2 (aa λz=>q (ak z))
 rw[ec];have s2:=cR.upd (o:=.lst cv) pQ;have sm:=s1.trans s2;generalize hG:upd (upd H D (.lst (((ps.filterMap g9).map λ(k:Nat)=>(k:Int)).map V.int))) D2 (.lst cv)=G at*;have Te:cU K G D (((ps.filterMap g9).map λ(k:Nat)=>(k:Int)).map V.int):=s2.seq gP;have GL:cU K G D2 cv:=cU.of (by rw[<-hG,cV]);have lc:=SV.length;have ll:(((ps.filterMap g9).map λ(k:Nat)=>(k:Int)).map V.int).length=(ps.filterMap g9).length:=by rw[az,az]
 unfold nB at k0 k1;generalize lX:ps.filterMap jN=C4 at*;refine⟨D,_,rfl,.inl Te,_,_,rfl,rfl,_,rfl,dw (λq=>?_) (λq=>?_)⟩
 .exact⟨(),k0 G sm (ah (.inl (by have:=aj q;lia)))⟩
 have n1:¬1<(ps.filterMap g9).length:=λz=>q (ak ());refine⟨D2,_,rfl,.inl GL,_,_,rfl,rfl,_,rfl,dw (λq=>?_) (λq=>?_)⟩
 .exact⟨(),k0 G sm (ah (.inr (by have:=aj q;lia)))⟩
 have n2:¬1<C4.length:=λz=>q (ak ());rw[aa (by rintro(z|z);exact n1 z;exact n2 z)]at k0 k1;have fin:∀v:V,oV C G v C4.head?->yS (yE CS (DU CS) [] E0 (kP (Ce (Rp K) (kP (iL 1) nI)) (kP (wk (Gp K C CN) [] E (kP (iL 0) nI)) (kP (iL 3) (kP (iL 0) nI)))))
   {nx:=λ_ H'=>Q .dI H',rt:=Q} [some (.ref a),some (.ref D),some (.ref D2),some v,none] G:=by
  intro v hv;refine⟨D,_,rfl,Te,a,as,ps,H0,rfl,sm.seq hS,hlen,hP.same sm,hN,λH3 s3 hn=>k0 H3 (sm.trans s3) (by rw[hn];rfl),λkk H3 s3 hk=>?_⟩;have f9:=sm.trans s3;refine λx dx hx eU dR=>?_;refine⟨x,dx,_,_,_,_,rfl,cV,rfl,k1 x _ _ (f9.ins hx eU) (by rw[hk];rfl) ⟨v,a,⟨dx,?_⟩,(hv.same s3).same ((cR.refl H3).ins hx eU),?_⟩⟩
  .rw[cV,sum_ints]
  .exact⟨zJ,as,(f9.ins hx eU) _ _ hA,hlen,hP.same (f9.ins hx eU)⟩
 refine⟨D2,_,rfl,.inl GL,rfl,_,rfl,dw (λq=>?_) (λq=>?_)⟩
 .have e1:cv.length=1:=by
   have:=V.int.inj (aj q);lia
  cases SV with
  |nil=>cases e1
  |@cons v x vs xs h t=>
   exact⟨D2,_,_,_,rfl,rfl,GL,eV (j:=0) rfl,fin v (oV.same s2 h)⟩
 .have e1:cv.length≠1:=λe=>q (ak (by rw[e];rfl));have e0:C4.head? =none:=by
   cases C4 with
   |nil=>rfl
   |cons y ys=>
    rw[aK]at lc n2;exact(e1 ()).elim
  refine fin .dI ?_;rw[e0];rfl
end
def J4{c:UInt8}{nm:Str}(h:je c=some nm):Named (.sign nm c):=by
 show nm=dD\/nm=fB\/nm=gu\/nm=gf\/nm=gG;unfold je at h
 repeat' split at h
 all_goals first
  |(cases h;done)
  |(have:=aH h;rw[<-this];decide+kernel)
def Z6{b:cS}{i n:Nat}{c:UInt8}{p:Pc}(h:rp b i c=some (p,n)):Named p:=by
 unfold rp at h;split at h
 .split at h
  .cases h
  .rw[<-(cy (aH h)).1];trivial
 unfold uT at h;split at h
 .cases hd:b[i+1]? with
  |none=>rw[hd]at h;cases h
  |some d=>
   rw[hd]at h;rw[<-(cy (aH h)).1];trivial
 unfold uS at h;split at h
 .unfold brk at h;split at h
  .cases h
  .unfold o8 at h;split at h
   .rw[<-(cy (aH h)).1];trivial
   .split at h
    .rw[<-(cy (aH h)).1];trivial
    .split at h
     .rw[<-(cy (aH h)).1];trivial
     .cases h
 unfold wU at h;split at h
 .rename_i nm hs;rw[<-(cy (aH h)).1];exact J4 hs
 unfold wR at h;split at h
 .rw[<-(cy (aH h)).1];trivial
 unfold tD at h;split at h
 .rename_i x hw;rw[<-(cy (aH h)).1];show x.1=fK\/x.1=gZ;have gen:∀l:List (Str×Str),(∀y∈l,y.2=fK\/y.2=gZ)->lF l b i=some x->x.1=fK\/x.1=gZ:=by
   intro l
   induction l with
   |nil=>intro _ h;cases h
   |cons y l ih=>
    intro hl h;rw[vv]at h;split at h
    .rw[<-aH h];exact hl y aB
    .exact ih (λz hz=>hl z (aA _ hz)) h
  exact gen iK () hw
 unfold uR at h;split at h
 .split at h
  .cases h
  .rw[<-(cy (aH h)).1];trivial
 .unfold qJ at h;split at h
  .rw[<-(cy (aH h)).1];trivial
  .cases h
theorem AE{b:cS}:∀{f i:Nat} {l:List (List Pc)},gn b f i=some l->∀ps∈l,∀p∈ps,Named p
 |0,_,_,h=>by cases h
 |f+1,i,l,h=>by
  rw[gn]at h;split at h
  .rw[<-aH h];intro ps hps;rw[List.mem_singleton.mp hps];intro p hp;cases hp
  .split at h
   .obtain⟨x,hx,e⟩:=aG.mp h;rw[<-e];intro ps hps;rcases aN.mp hps with e|hps
    .rw[e];intro p hp;cases hp
    .exact AE hx ps hps
   .obtain⟨x,hx,h⟩:=aO.mp h;obtain⟨y,hy,e⟩:=aG.mp h;rw[<-e];have ih:=AE hy;cases y with
    |nil=>intro ps hps;cases hps
    |cons t r=>
     intro ps hps;rcases aN.mp hps with e|hps
     .rw[e];intro p hp;rcases aN.mp hp with e|hp
      .rw[e];exact Z6 hx
      .exact ih t aB p hp
     .exact ih ps (aA _ hps)
noncomputable def pC(cs:List eZ):Bool:=decide (cs.length<=4)&&(!cs.dropLast.any (λc=>decide (c.kind=3))&&(!(cs.drop 2).any (λc=>c.cond.isSome)&&(decide (cs.length<4)||(match cs[3]? with
 |some c=>decide (c.kind=0)||decide (c.kind=3)
 |none=>false))))
def lG:List (List Pc)->Option (List eZ)
 |[]=>some []
 |x::r=>(nB x).bind λc=>(lG r).map λl=>c::l
def iy(b:cS):Option (List eZ):=if 255<b.length\/Wbk.utf8 b=false then none else(gn b (b.length+1) 0).bind λls=>(lG ls).bind λcs=>if pC cs=true then some cs else none
abbrev Ss(C:Cs)(CS:Addr)(H0 H:Hp)(as:List Addr)(cs:List eZ):Prop:=A2 (λa c=>kR C CS H0 H a c) as cs
theorem Ss.same{CS:Addr}{H0 H H':Hp}{as:List Addr}{cs:List eZ}(s:cR H H')(h:Ss C CS H0 H as cs):Ss C CS H0 H' as cs:=A2.imp (λ_ _ z=>z.same s) h
def A2.zd{α β:Type}{R:α->β->Prop}{xs:List α}{ys:List β}(h:A2 R xs ys){x:α}(hx:x∈xs):∃y,y∈ys/\R x y:=by
 induction h with
 |nil=>cases hx
 |@cons a b xs ys r t ih=>
  rcases aN.mp hx with e|hx
  .exact⟨b,aB,e▸r⟩
  .obtain⟨y,h1,h2⟩:=ih hx;exact⟨y,aA _ h1,h2⟩
def A2.Gh{β:Type}{R:Addr->β->Prop}{as:List Addr}{ys:List β}(f:V->V)(g:β->V)(hg:∀a y,R a y->f (.ref a)=g y)(h:A2 R as ys):(as.map V.ref).filterMap (λx=>some (f x))=ys.map g:=by
 induction h with
 |nil=>rfl
 |@cons a b xs ys r t ih=>rw[aX,aJ,aX,hg a b r,ih]
def A2.Gi{α β:Type}{R:α->β->Prop}{xs:List α}{ys:List β}(h:A2 R xs ys):∀n,A2 R (xs.drop n) (ys.drop n):=by
 induction h with
 |nil=>intro n;rw[List.drop_nil,List.drop_nil];exact .nil
 |@cons a p as ps r t ih=>
  intro n;cases n with
  |zero=>exact .cons r t
  |succ n=>exact ih n
def A2.BG{α β:Type}{R:α->β->Prop}{xs:List α}{ys:List β}(h:A2 R xs ys):∀n,A2 R (xs.take n) (ys.take n):=by
 induction h with
 |nil=>intro n;rw[List.take_nil,List.take_nil];exact .nil
 |@cons a p as ps r t ih=>
  intro n;cases n with
  |zero=>exact .nil
  |succ n=>exact .cons r (ih n)
def aC6(xs:List V):fH xs none (some (-1))=xs.dropLast:=by
 unfold fH;rw[List.dropLast_eq_take];have e1:HT.e9 xs.length 0 none=0:=rfl;have e2:HT.e9 xs.length xs.length (some (-1))=xs.length-1:=by
  show(if(-1:Int)<0 then((-1:Int)+(xs.length:Int)).toNat else min (-1:Int).toNat xs.length)=_;rw[ah ()];lia
 rw[e1,e2];rfl
def kR.fields{CS:Addr}{H0 H:Hp}{a:Addr}{cs:eZ}(h:kR C CS H0 H a cs):∃v pl dx,H a=some (.ins CS dx (oq (.int cs.colour) (.int cs.kind) v (.ref pl)))/\oV C H v cs.cond/\dQ H "kind" (.ref a)= .int cs.kind/\dQ H "condition" (.ref a)=v/\(decide (v= .dI)= !cs.cond.isSome):=by
 obtain⟨v,pl,⟨dx,h1⟩,h2,h3⟩:=h;refine⟨v,pl,dx,h1,h2,p9 h1 (vo),p9 h1 (xO),?_⟩;cases hc:cs.cond with
 |none=>
  rw[hc]at h2;have:v= .dI:=h2;rw[this];rfl
 |some x=>
  rw[hc]at h2;obtain⟨q,e,_⟩:=h2;rw[e];rfl
section
abbrev Rn:Stmt:=top 123
def PM:dP ["sections","section"] ["sections"] (c9 Rn):=dW
inductive O7(K:b6)(C:Cs)(CS:Addr)(vs:List V)(H:Hp)(Q:VK)(z3:XK):Prop|m(a as cs H0)(_:vs=[.ref a])(_:cU K H a (as.map V.ref))(_:as.length<=300)(_:Ss C CS H0 H as cs)(_:∀H',cR H H'->Q (.bl (pC cs)) H')
def az6{f CS:Addr}(T:TX P w K mg)(TS:rY K CS)(F:dM K "are_right_together" "are_right_together" Rn f fd):dJ P w K mg base cY 1 f fd ["sections"] (O7 K C CS):=by
 refine F.oK PM λc8 A outer s H vs Q E hr h=>?_;obtain⟨a,as,cs,H0,rfl,hS,hlen,hC,k⟩:=h;have nd:=PM.nd;have hl:=hC.length;have hml:(as.map V.ref).length=cs.length:=by rw[az,hl]
 unfold pC at k;refine⟨_,(cW (dO (dj iV (eN fD rfl T.fq () (cT (pv 0))) (dG T.Dk)) (cX (dh mG)) dX)
  (cW (dO (iH (eN (Oh rfl) rfl T.Qm () (cT (nk rfl nd (gR (fP fX (pv 0) gQ (eY (sO sE cZ)))) (iA (N:=["sections","section"]) (sc:=c9 (top 123)) (own:=[("section",1)]) ()) (λ_ _ _ _ _=>fF (i:=1) nd (.inr rfl)) (λ_ _ _ _ _=>mq) (λ_ _ _ _ _=>(fQ dU (show PE _ _ (gT K _ "kind")from dH (pv 1) rfl) (dG T.As))))))) (cX (dh mG)) dX)
  (cW (dO (iH (eN (Oh rfl) rfl T.Qm () (cT (nk rfl nd (gR (fP fX (pv 0) (eY cZ) gQ)) (iA (N:=["sections","section"]) (sc:=c9 (top 123)) (own:=[("section",1)]) ()) (λ_ _ _ _ _=>fF (i:=1) nd (.inr rfl)) (λ_ _ _ _ _=>mq) (λ_ _ _ _ _=>(fQ Bd (show PE _ _ (gT K _ "condition")from dH (pv 1) rfl) sH)))))) (cX (dh mG)) dX)
  (cX (dh (yG (fQ jg (eN fD rfl T.fq () (cT (pv 0))) (dG T.Dk)) (kh (fQ lz (dH (fM fW (pv 0) cZ (λ_ _=>rfl)) rfl) (Fx (c_ (dG T.Jr) (cT (dG T.As)))) (by with_unfolding_all rfl))))))))),?_⟩
 refine⟨a,_,rfl,.inl hS,_,_,rfl,rfl,_,rfl,dw (λq=>?_) (λq=>?_)⟩
 .have h1:¬cs.length<=4:=by
   have:=aj q;lia
  rw[ao h1,aZ]at k;exact k H (cR.refl H)
 have h1:cs.length<=4:=by
  by_cases z:cs.length<=4
  .exact z
  .exact cJ (ak ()) q
 rw[ak h1,aY]at k;refine⟨1,rfl,-1,rfl,a,_,rfl,hS,?_⟩;rw[aC6,List.dropLast_eq_take,az,<-bI];intro p1 jW;have s1:=cR.upd (o:=.lst ((as.take (as.length-1)).map V.ref)) jW;have CM:=hC.same s1;have i9:cU K (upd H p1 (.lst ((as.take (as.length-1)).map V.ref))) p1 ((as.take (as.length-1)).map V.ref):=cU.of cV;have Ie:=A2.BG CM (as.length-1);refine⟨p1,rfl,⟨_,i9⟩,λD1 gP=>i6 (λx=>some (V.bl (decide (dQ (upd H p1 (.lst ((as.take (as.length-1)).map V.ref))) "kind" x= .int 3)))) i9 gP (by rw[az,aW];lia) ?_ ?_⟩
 .intro x H' hx sm Q1 Q2 g1 g2;obtain⟨b,hb,rfl⟩:=bJ.mp hx;obtain⟨c,hc,hs⟩:=A2.zd Ie hb;obtain⟨v,pl,dx,hi,hv,f1,f2,f3⟩:=hs.fields;rw[f1]at g1;exact⟨rfl,b,CS,dx,_,_,rfl,sm _ _ hi,TS.cl,TS.vZ,vo,rfl,g1 _ rfl⟩
 have ek:((as.take (as.length-1)).map V.ref).filterMap (λx=>some (V.bl (decide (dQ (upd H p1 (.lst ((as.take (as.length-1)).map V.ref))) "kind" x= .int 3))))=(cs.dropLast.map λc=>decide (c.kind=3)).map V.bl:=by
  rw[A2.Gh (λx=>V.bl (decide (dQ (upd H p1 (.lst ((as.take (as.length-1)).map V.ref))) "kind" x= .int 3))) (λc=>V.bl (decide (c.kind=3))) (λb c hs=>by
   obtain⟨v,pl,dx,hi,hv,f1,f2,f3⟩:=hs.fields;show V.bl (decide (dQ _ "kind" (.ref b)= .int 3))=_;rw[f1];exact cI V.bl (au.mpr ⟨λe=>by have:=V.int.inj e;lia,λe=>by rw[e];rfl⟩)) Ie,bT,hl,<-List.dropLast_eq_take]
  rfl
 rw[ek];have s2:=cR.upd (o:=.lst ((cs.dropLast.map λc=>decide (c.kind=3)).map V.bl)) gP;have gV:=s1.trans s2;refine⟨D1,_,rfl,cU.of cV,_,rfl,?_⟩;rw[List.any_map];cases h2:cs.dropLast.any (λc=>decide (c.kind=3))with
 |true=>
  rw[h2,Bool.not_true,aZ]at k;exact dw (λ_=>k _ gV) (λq=>cJ (show cs.dropLast.any (λc=>decide (c.kind=3))=true from h2) q)
 |false=>
 rw[h2,Bool.not_false,aY]at k;refine dw (λq=>cJ ((show cs.dropLast.any (λc=>decide (c.kind=3))=true from q).symm.trans h2) ()) λ_=>?_;have Ir:fH (as.map V.ref) (some 2) none=(as.drop 2).map V.ref:=by
  have:=q_ (as.map V.ref) 2;rw[<-bH]at this;exact this
 refine⟨2,rfl,a,_,rfl,gV.seq hS,?_⟩;rw[Ir];intro p3 gB;have s3:=cR.upd (o:=.lst ((as.drop 2).map V.ref)) gB;have f9:=gV.trans s3;have zX:=hC.same f9;generalize Ij:upd (upd (upd H p1 (.lst ((as.take (as.length-1)).map V.ref))) D1 (.lst ((cs.dropLast.map λc=>decide (c.kind=3)).map V.bl))) p3 (.lst ((as.drop 2).map V.ref))=G3 at*;have pJ:cU K G3 p3 ((as.drop 2).map V.ref):=cU.of (by rw[<-Ij,cV]);have S2:=A2.Gi zX 2;refine⟨p3,rfl,⟨_,pJ⟩,λD3 jY=>i6 (λx=>some (V.bl (!decide (dQ G3 "condition" x= .dI)))) pJ jY (by rw[az,aQ];lia) ?_ ?_⟩
 .intro x H' hx sm Q1 Q2 g1 g2;obtain⟨b,hb,rfl⟩:=bJ.mp hx;obtain⟨c,hc,hs⟩:=A2.zd S2 hb;obtain⟨v,pl,dx,hi,hv,f1,f2,f3⟩:=hs.fields;rw[f2]at g1;exact⟨rfl,b,CS,dx,_,_,rfl,sm _ _ hi,TS.cl,TS.xW,xO,rfl,g1 _ rfl⟩
 have ek3:((as.drop 2).map V.ref).filterMap (λx=>some (V.bl (!decide (dQ G3 "condition" x= .dI))))=((cs.drop 2).map λc=>c.cond.isSome).map V.bl:=by
  rw[A2.Gh (λx=>V.bl (!decide (dQ G3 "condition" x= .dI))) (λc=>V.bl c.cond.isSome) (λb c hs=>by
   obtain⟨v,pl,dx,hi,hv,f1,f2,f3⟩:=hs.fields;show V.bl (!decide (dQ G3 "condition" (.ref b)= .dI))=_;rw[f2,f3,Bool.not_not]) S2,bT]
  rfl
 rw[ek3];have s4:=cR.upd (o:=.lst (((cs.drop 2).map λc=>c.cond.isSome).map V.bl)) jY;have iS:=f9.trans s4;refine⟨D3,_,rfl,cU.of cV,_,rfl,?_⟩;rw[List.any_map];cases h3:(cs.drop 2).any (λc=>c.cond.isSome)with
 |true=>
  rw[h3,Bool.not_true,aZ]at k;exact dw (λ_=>k _ iS) (λq=>cJ (show(cs.drop 2).any (λc=>c.cond.isSome)=true from h3) q)
 |false=>
 rw[h3,Bool.not_false,aY]at k;refine dw (λq=>cJ ((show(cs.drop 2).any (λc=>c.cond.isSome)=true from q).symm.trans h3) ()) λ_=>?_;refine⟨a,_,rfl,.inl (iS.seq hS),_,_,rfl,rfl,_,rfl,dw (λq=>?_) (λq=>?_)⟩
 .have h4:cs.length<4:=by
   have:=aj q;lia
  rw[ak h4,Bool.true_or]at k;exact k _ iS
 .have h4:¬cs.length<4:=λz=>q (ak ());rw[ao h4,Bool.false_or]at k;obtain⟨b,hb⟩:∃b,as[3]? =some b:=⟨_,br ()⟩;obtain⟨c,hc,hs⟩:=A2.get (hC.same iS) hb;rw[hc]at k;obtain⟨v,pl,dx,hi,hv,f1,f2,f3⟩:=hs.fields;refine⟨a,_,_,_,rfl,rfl,iS.seq hS,eV (j:=3) (v:=.ref b) (by rw[aR,hb];rfl),b,CS,dx,_,_,rfl,hi,TS.cl,TS.vZ,vo,(by show 2<=2^24;decide),λp5 pM=>⟨p5,_,rfl,.inr (e_.of cV),rfl,rfl,?_⟩⟩;have e:inV (V.int (c.kind:Int)) [.int 0,.int 3]=(decide (c.kind=0)||decide (c.kind=3)):=by
   show((0:Int)==(c.kind:Int)||((3:Int)==(c.kind:Int)||false))=_;rw[bC];simp;lia
  have:Q (.bl (decide (c.kind=0)||decide (c.kind=3))) _:=k _ (iS.trans (cR.upd (o:=.tup [V.int 0,V.int 3]) pM));rw[<-e]at this;exact this
end
theorem ET{b:cS}:∀{f i:Nat} {l:List (List Pc)},gn b f i=some l->l.length<=f
 |0,_,_,h=>by cases h
 |f+1,i,l,h=>by
  rw[gn]at h;split at h
  .rw[<-aH h];simp
  .split at h
   .obtain⟨x,hx,e⟩:=aG.mp h;have:=ET hx;rw[<-e,aK];lia
   .obtain⟨x,_,h⟩:=aO.mp h;obtain⟨y,hy,e⟩:=aG.mp h;have:=ET hy;rw[<-e,List.length_modifyHead];lia
section
abbrev R5:Stmt:=top 114
def QC:dP ["picture","sections","pieces"] ["picture"] (c9 R5):=dW
inductive Qz(K:b6)(C:Cs)(CS CN:Addr)(vs:List V)(H:Hp)(Q:VK)(E:XK):Prop|m(a b)(_:vs=[.ref a])(_:cU K H a (bv b))(_:b.length<=70000)(_:(∀H',cR H H'->iy b=none->E (.ref CN) none H'))(_:∀p as cs H',cR H H'->iy b=some cs->H' p=some (.lst (as.map V.ref))->Ss C CS H H' as cs->Q (.ref p) H')
def aG1{f CS:Addr}(T:TX P w K mg)(j4:OwnCls "NoPicture" CN bm newId mg base)(FB:ExcBaseFacts B newId lE bm)(Ds:Own P w K mg base cY 2 "is_well_made" ["codes"] (Fj K))
  (Ws:Own P w K mg base (fO P w CN) 7 "part_pieces" ["picture"] (QB K C CN))(VZ:Own P w K mg base (fO P w CN) 5 "make_section" ["pieces"] (Nj K C CS CN))(Um:Own P w K mg base cY 1 "are_right_together" ["sections"] (O7 K C CS))
  (F:dM K "read_sections" "read_sections" R5 f fd):dJ P w K mg base (fO P w CN) 8 f fd ["picture"] (Qz K C CS CN):=by
 refine F.oX QC λc8 A outer s H vs Q E hr h xk hp=>?_;obtain⟨a,b,rfl,hS,hlen,k0,k1⟩:=h;have nd:=QC.nd;unfold iy at k0 k1;refine⟨_,(cW (dO (PW.pt (mF (dj iV (eN fD rfl T.fq () (cT (pv 0))) (dG T.WZ)) (oE (uB (iH (dF Ds hr (cT (pv 0)))))))) (cX (mZ j4 FB rfl xk rfl (cT eH))) dX)
  (cW (YR (i:=1) xk rfl rfl rfl nd rfl rfl (lD rfl rfl rfl rfl) (gR (kg Ws (hr.mono ()) (kQ xk (λ_ z=>z)) (cT (pv 0)))) (iA (N:=["picture","sections","pieces"]) (sc:=c9 (top 114)) (own:=[("pieces",2)]) ()) (λ_ _ _ _ _=>fF (i:=2) nd (.inr rfl)) (λ_ _ _ _ _=>mq) (λ_ _ _ _ _ _ _ xk=>(kg VZ (hr.mono ()) (kQ xk (λ_ z=>z)) (cT (pv 2)))))
  (cW (dO (uB (iH (dF Um hr (cT (pv 1))))) (cX (mZ j4 FB rfl xk rfl (cT eH))) dX)
  (cX (dh (pv 1)))))),?_⟩
 refine⟨a,_,rfl,.inl hS,_,_,rfl,rfl,_,rfl,dw (λq=>?_) (λq=>?_)⟩
 .have h1:255<b.length:=by
   have:=aj q;rw[eB]at this;lia
  exact⟨(),k0 H (cR.refl H) (ah (.inl h1))⟩
 have h1:¬255<b.length:=λz=>q (ak (by rw[eB];lia));refine⟨a,bi b,rfl,hS,FU b,λH1 s1=>⟨_,rfl,?_⟩⟩;rw[rq];cases hu:Wbk.utf8 b with
 |false=>
  refine dZ ⟨(),k0 H1 s1 (ah (.inr hu))⟩
 |true=>
 rw[aa (by rintro(z|z);exact h1 z;rw[hu]at z;cases z)]at k0 k1;refine dB ⟨a,b,rfl,s1.seq hS,(),hu,λH2 s2 hn=>k0 H2 (s1.trans s2) (by rw[hn];rfl),λp qs ls H2 s2 mT hp hql S5=>?_⟩;have gV:=s1.trans s2;have hNm:=AE mT;have Cy:=ET mT;rw[mT,Option.bind_some]at k0 k1;have hlq:=S5.length;refine⟨p,rfl,⟨_,cU.of hp⟩,λD hD=>?_⟩;refine Bh (K:=K) (a:=p) (xs:=qs.map V.ref) (λi H'=>∃(bs:List Addr) (done:List eZ),cR H2 H'/\H' D=some (.lst (bs.map V.ref))/\bs.length=i/\Ss C CS (upd H1 D (.lst [])) H' bs done/\lG ls=(lG (ls.drop i)).map λl=>done++l) ?_ ?_ ?_ ?_
 .refine⟨[],[],cR.upd hD,cV,rfl,.nil,?_⟩;rw[List.drop_zero];cases lG ls<;>rfl
 .rintro i H' _ ⟨bs,done,sm,_⟩;exact sm.seq (cU.of hp)
 .rintro i x H' hx ⟨bs,done,sm,gC,tO,tQ,jP⟩;rw[aR]at hx;obtain⟨q,hq,rfl⟩:=aG.mp hx;obtain⟨ps,hps,hPq⟩:=A2.get S5 hq;have gv:i<ls.length:=(aD.mp hps).1;rw[gh hps]at jP;have aP5:lC C (upd H1 D (.lst [])) H' q ps:=hPq.to (λx o z1 z2=>by rw[eK (λe=>by rw[e,hD]at z2;cases z2)];exact z1) sm;refine⟨rfl,q,ps,_,rfl,aP5,hNm ps (bx hps),λH3 s3 hn=>?_,λb' c H3 s3 hc hb=>?_⟩
  .refine k0 H3 ((gV.trans sm).trans s3) ?_;rw[jP];show Option.bind (Option.map _ (Option.bind (nB ps) _)) _=none;rw[hn];rfl
  .have jY:=s3 _ _ gC;refine⟨_,jY,(by rw[az];show _<2^24;lia),bs++[b'],done++[c],?_,?_,by rw[aC,tO];rfl,?_,?_⟩
   .exact(sm.trans s3).off hD
   .rw[cV,bf];rfl
   .exact A2.snoc (hb.off cV jY) (A2.imp (λ_ _ z=>(z.same s3).off cV jY) tQ)
   .rw[jP];show Option.map _ (Option.bind (nB ps) _)=_;rw[hc];show Option.map _ (Option.map _ (lG (ls.drop (i+1))))=_;cases lG (ls.drop (i+1))with
    |none=>rfl
    |some l=>
     show some (done++c::l)=some ((done++[c])++l);rw[bw];rfl
 .rintro H' ⟨bs,done,sm,gC,tO,tQ,jP⟩;rw[az,hlq,List.drop_length]at jP;have jP:lG ls=some done:=by
   rw[jP];show some (done++[])=_;rw[aU]
  rw[jP,Option.bind_some]at k0 k1;have iS:=gV.trans sm;refine⟨D,bs,done,_,rfl,cU.of gC,(by rw[az]at tO;lia),tQ,λH4 s4=>⟨_,rfl,?_⟩⟩;cases ht:pC done with
  |false=>
   rw[ht]at k0;exact dZ ⟨(),k0 H4 (iS.trans s4) rfl⟩
  |true=>
   rw[ht]at k1;refine dB (k1 D bs done H4 (iS.trans s4) rfl (s4 _ _ gC) (A2.imp (λ_ _ z=>(z.same s4).old λx hx=>?_) tQ))
   by_cases e:x=D
   .rw[e,cV]at hx;cases hx
   .rw[eK e]at hx;exact s1.free hx
end
def ah9{b:cS}{cs:List eZ}(h:iy b=some cs):cs.length<=4:=by
 unfold iy at h;split at h
 .cases h
 .obtain⟨ls,_,h⟩:=aO.mp h;obtain⟨c,_,h⟩:=aO.mp h;split at h
  .rename_i ht;rw[<-aH h];unfold pC at ht;rw[aE]at ht;exact aj ht.1
  .cases h
def LZ(c:UInt8):(c.toNat/64==2)=true↔(128<=c.toNat/\c.toNat<=191):=by
 rw[beq_iff_eq];lia
def Bg{r:cS}(h:Wbk.utf8 r=true):r.takeWhile (λc=>c.toNat/64==2)=[]:=by
 cases r with
 |nil=>rfl
 |cons a r=>
  rw[aF,aa];intro hc;have:=(LZ a).mp hc;rw[x6,aa (by omega),aa (by omega),aa (by omega),aa (by omega)]at h;cases h
def vL{b:UInt8}{lo hi:Nat}(h:jI b lo hi=true)(h1:128<=lo)(h2:hi<=191):(b.toNat/64==2)=true:=by
 unfold jI at h;rw[aE,aq,aq]at h;exact(LZ b).mpr ()
def ao2(c:UInt8):f_ c=if c.toNat<128 then 1 else if c.toNat<192 then 0 else if c.toNat<224 then 2 else if c.toNat<240 then 3 else if c.toNat<248 then 4 else 0:=by
 unfold f_ gm
 repeat' split
 all_goals first
  |rfl
  |omega
def Zy{d:UInt8}{r:cS}(h:Wbk.utf8 (d::r)=true):(r.takeWhile λc=>c.toNat/64==2).length+1=f_ d:=by
 rw[ao2];rw[x6]at h;split at h
 .rename_i h1;rw[ah h1,Bg h];rfl
 .rename_i h1;rw[aa h1];split at h
  .rename_i h2;rw[aa (),ah ()];cases r with
   |nil=>cases h
   |cons b q=>
    simp only[aE]at h;rw[aF,ah (vL h.1 () ()),Bg h.2];rfl
  .split at h
   .rename_i h2 h3;rw[aa (),aa (),ah ()]
    match r,h with
    |b::c::q,h=>
     simp only[aE]at h;rw[aF,ah (vL h.1 (by split<;>decide) (by split<;>decide)),aF,ah (vL h.2.1 () ()),Bg h.2.2];rfl
   .split at h
    .rename_i h2 h3 h4;rw[aa (),aa (),aa (),ah ()]
     match r,h with
     |b::c::e::q,h=>
      simp only[aE]at h;rw[aF,ah (vL h.1 (by split<;>decide) (by split<;>decide)),aF,ah (vL h.2.1 () ()),aF,ah (vL h.2.2.1 () ()),Bg h.2.2.2];rfl
    .cases h
def L3{d:UInt8}{r:cS}(h:Wbk.utf8 (d::r)=true):char1 (d::r)=some ((d::r).take (f_ d),(d::r).drop (f_ d)):=by
 have e:=Zy h;unfold char1;dsimp only;have e2:r.takeWhile (λc=>c.toNat/64==2)=r.take (r.takeWhile λc=>c.toNat/64==2).length:=bY.mp (aT _);rw[<-e,List.take_succ_cons,List.drop_succ_cons,<-e2]
def pF(z:Str):Nat:=if z="<" then 1 else if z="<=" then 2 else if z=">" then 3 else if z=">=" then 4 else if z="=" then 5 else 6
def vD(c:UInt8):isDigit (lower c)=isDigit c/\(isDigit c=true->lower c=c)/\(lower c=45↔c=45)/\(lower c=46↔c=46)/\(lower c=60↔c=60)/\(lower c=61↔c=61)/\(lower c=62↔c=62):=by
 have key:∀k:Fin 256,isDigit (lower (UInt8.ofNat k.val))=isDigit (UInt8.ofNat k.val)/\(isDigit (UInt8.ofNat k.val)=true->lower (UInt8.ofNat k.val)=UInt8.ofNat k.val)/\(lower (UInt8.ofNat k.val)=45↔UInt8.ofNat k.val=45)/\(lower (UInt8.ofNat k.val)=46↔UInt8.ofNat k.val=46)/\(lower (UInt8.ofNat k.val)=60↔UInt8.ofNat k.val=60)/\(lower (UInt8.ofNat k.val)=61↔UInt8.ofNat k.val=61)/\(lower (UInt8.ofNat k.val)=62↔UInt8.ofNat k.val=62):=();have:=key ⟨c.toNat,c.toNat_lt⟩;simp only[cE]at this;exact this
def ar2(b:cS):(b.map lower).takeWhile isDigit=b.takeWhile isDigit:=by
 induction b with
 |nil=>rfl
 |cons c b ih=>
  rw[aX,aF,aF,(vD c).1];split
  .rename_i h;rw[(vD c).2.1 h,ih]
  .rfl
def aq3(b:cS):(b.map lower).all isDigit=b.all isDigit:=by
 rw[List.all_map];congr 1;funext c;exact(vD c).1
def al5{b:cS}(h:b.all isDigit=true):b.map lower=b:=by
 induction b with
 |nil=>rfl
 |cons c b ih=>
  rw[bu,aE]at h;rw[aX,(vD c).2.1 h.1,ih h.2]
def LK(b:cS)(x:UInt8)(hx:∀c,lower c=x↔c=x):((b.map lower).head? =some x)↔(b.head? =some x):=by
 cases b with
 |nil=>simp
 |cons c b=>simp[hx]
def Jq(b:cS):decimalIn (b.map lower)=decimalIn b:=by
 unfold decimalIn;have e1:((b.map lower).head? ==some 45)=(b.head? ==some 45):=by
  rw[bC,beq_iff_eq,beq_iff_eq];exact LK b 45 λc=>(vD c).2.2.1
 rw[e1];generalize (b.head? ==some 45)=s;dsimp only;have e2:(if s=true then(b.map lower).drop 1 else b.map lower)=(if s=true then b.drop 1 else b).map lower:=by
  split
  .rw[bH]
  .rfl
 rw[e2];generalize (if s=true then b.drop 1 else b)=l;rw[ar2,<-bH];generalize hf:l.drop (l.takeWhile isDigit).length=f;have e3:(f.map lower=[])↔f=[]:=List.map_eq_nil_iff
 by_cases h0:f=[]
 .rw[ah (e3.mpr h0),ah h0]
 .rw[aa λz=>h0 (e3.mp z),aa h0];have e4:((f.map lower).head? =some 46/\2<=(f.map lower).length/\((f.map lower).drop 1).all isDigit=true)↔(f.head? =some 46/\2<=f.length/\(f.drop 1).all isDigit=true):=by
   rw[LK f 46 λc=>(vD c).2.2.2.1,az,<-bH,aq3]
  by_cases h1:f.head? =some 46/\2<=f.length/\(f.drop 1).all isDigit=true
  .rw[ah (e4.mpr h1),ah h1,<-bH,al5 h1.2.2]
  .rw[aa λz=>h1 (e4.mp z),aa h1]
def col_eq(l:cS):(COLOURS.findIdx? λs=>Sv68.str s==l)=if 0<kG l then some (kG l-1)else none:=by
 have key:∀(s:String) (z:Str),eX z=bi (Sv68.str s)->((Sv68.str s==l)=decide (bi l=eX z)):=λs z h=>by
  rw[h,bC,beq_iff_eq,aq];exact⟨λe=>by rw[e],λe=>(BF e).symm⟩
 unfold kG zm COLOURS;simp only[List.findIdx?_cons,List.findIdx?_nil,zj,key "black" "black" (),key "blue" "blue" (),key "cyan" "cyan" (),key "green" "green" (),key "magenta" "magenta" (),key "red" "red" (),key "white" "white" (),key "yellow" "yellow" (),aq]
 repeat' split
 all_goals first
  |rfl
  |lia
def NY(l:cS):(l≠[]/\l.length<=9/\(l.all (λc=>c==104)||(l.all (λc=>c==109)||l.all λc=>c==115))=true)↔oZ l=true:=by
 cases l with
 |nil=>simp[oZ]
 |cons c r=>
  show _↔(decide ((c::r).length<=9)&&((c==104||(c==109||c==115))&&(c::r).all λx=>x==c))=true;simp only[aE,Bool.or_eq_true,aq,bu,beq_iff_eq,ne_eq,reduceCtorEq,not_false_eq_true,true_and,beq_self_eq_true];constructor
  .rintro⟨h1,h2⟩;refine⟨h1,?_⟩;rcases h2 with⟨e,h⟩|⟨e,h⟩|⟨e,h⟩
   .exact⟨.inl e,by rw[e];exact h⟩
   .exact⟨.inr (.inl e),by rw[e];exact h⟩
   .exact⟨.inr (.inr e),by rw[e];exact h⟩
  .rintro⟨h1,h2,h3⟩;refine⟨h1,?_⟩;rcases h2 with e|e|e
   .exact .inl ⟨e,by rw[e]at h3;exact h3⟩
   .exact .inr (.inl ⟨e,by rw[e]at h3;exact h3⟩)
   .exact .inr (.inr ⟨e,by rw[e]at h3;exact h3⟩)
theorem E6{f:UInt8->UInt8}:∀{l w:cS},(∀x∈w,∀c,f c=x↔c=x)->(l.map f=w↔l=w)
 |[],[],_=>by simp
 |[],_::_,_=>by simp
 |_::_,[],_=>by simp
 |a::l,x::w,h=>by
  rw[aX,List.cons.injEq,List.cons.injEq,h x aB a,E6 λy hy=>h y (aA _ hy)]
def vV{t w:cS}{z:Str}(hz:eX z=bi w)(hl:z.length=w.length)(hw:∀x∈w,∀c,lower (lower c)=x↔c=x):jm (bi (t.map lower)) 0 z=decide (t.take w.length=w):=by
 unfold jm;refine au.mpr ?_;rw[List.drop_zero,hl,hz];have e:((bi (t.map lower)).take w.length).map jl=bi ((t.take w.length).map λc=>lower (lower c)):=by
  unfold bi;rw[<-bI,<-bI,bT,bT,bT];exact cC λc _=>rZ (lower c)
 rw[e];exact⟨λh=>(E6 hw).mp (BF h),λh=>by rw[(E6 hw).mpr h]⟩
def aM2:∀x∈([60,61,62]:cS),∀c,lower (lower c)=x↔c=x:=by
 have key:∀x∈([60,61,62]:cS),∀k:Fin 256,lower (lower (UInt8.ofNat k.val))=x↔UInt8.ofNat k.val=x:=();intro x hx c;have:=key x hx ⟨c.toNat,c.toNat_lt⟩;simp only[cE]at this;exact this
def cond_eq(t:cS):qy (t.map lower)=(if t.take 2=[60,61]then(decimalIn (t.drop 2)).map λv=>(("<=":Str),v)else if t.take 2=[62,61]then(decimalIn (t.drop 2)).map λv=>((">=":Str),v)else if t.take 2=[60,62]then(decimalIn (t.drop 2)).map λv=>(("<>":Str),v)
  else if t.take 1=[60]then(decimalIn (t.drop 1)).map λv=>(("<":Str),v)else if t.take 1=[62]then(decimalIn (t.drop 1)).map λv=>((">":Str),v)else if t.take 1=[61]then(decimalIn (t.drop 1)).map λv=>(("=":Str),v)else none):=by
 have sub:∀w:cS,(∀x∈w,x∈([60,61,62]:cS))->∀x∈w,∀c,lower (lower c)=x↔c=x:=λw h x hx=>aM2 x (h x hx);unfold qy oW;simp only[uH,vV (t:=t) (w:=[60,61]) (z:="<=") () () (sub _ ()),vV (t:=t) (w:=[62,61]) (z:=">=") () () (sub _ ()),vV (t:=t) (w:=[60,62]) (z:="<>") () () (sub _ ()),
  vV (t:=t) (w:=[60]) (z:="<") () () (sub _ ()),vV (t:=t) (w:=[62]) (z:=">") () () (sub _ ()),vV (t:=t) (w:=[61]) (z:="=") () () (sub _ ()),aq]
 have l2:∀z:Str,z.length=2->decimalIn ((t.map lower).drop z.length)=decimalIn (t.drop 2):=λz h=>by rw[h,<-bH,Jq]
 have l1:∀z:Str,z.length=1->decimalIn ((t.map lower).drop z.length)=decimalIn (t.drop 1):=λz h=>by rw[h,<-bH,Jq]
 rw[l2 "<=" (),l2 ">=" (),l2 "<>" (),l1 "<" (),l1 ">" (),l1 "=" ()];rfl
def aa6{t:cS}(h:oZ (t.map lower)=true):qy (t.map lower)=none:=by
 cases t with
 |nil=>cases h
 |cons c r=>
  have h:(decide ((lower c::r.map lower).length<=9)&&((lower c==104||(lower c==109||lower c==115))&&(lower c::r.map lower).all λx=>x==lower c))=true:=h;simp only[aE,Bool.or_eq_true,beq_iff_eq]at h;have hc:c≠60/\c≠61/\c≠62:=by
   have h2:=h.2.1;refine⟨λe=>?_,λe=>?_,λe=>?_⟩<;>(rw[e]at h2;revert h2;decide+kernel)
  have t1:∀(x:UInt8) (w:cS),c≠x->¬(c::r).take (w.length+1)=x::w:=λx w hx e=>by
   rw[List.take_succ_cons]at e;exact hx (List.cons.inj e).1
  rw[cond_eq,aa (show¬(c::r).take 2=[60,61]from t1 60 [61] hc.1),aa (show¬(c::r).take 2=[62,61]from t1 62 [61] hc.2.2),aa (show¬(c::r).take 2=[60,62]from t1 60 [62] hc.1),aa (show¬(c::r).take 1=[60]from t1 60 [] hc.1),aa (show¬(c::r).take 1=[62]from t1 62 [] hc.2.2),aa (show¬(c::r).take 1=[61]from t1 61 [] hc.2.1)]
def Yy(t:cS):bracket t=if 0<kG (t.map lower)then some (.inl (kG (t.map lower)))else if oZ (t.map lower)=true then some (.inr (.inr (.passed ((t.map lower).headD 0) (t.map lower).length 0)))else(qy (t.map lower)).map λx=>.inr (.inl (pF x.1,x.2)):=by
 unfold bracket;dsimp only;rw[col_eq]
 by_cases h0:0<kG (t.map lower)
 .rw[ah h0,ah h0];show some (Sum.inl (kG (t.map lower)-1+1))=_;rw[show kG (t.map lower)-1+1=kG (t.map lower) by lia]
 .rw[aa h0,aa h0];dsimp only
  by_cases h1:oZ (t.map lower)=true
  .rw[ah ((NY _).mpr h1),ah h1]
  .rw[aa λz=>h1 ((NY _).mp z),aa h1,cond_eq]
   repeat' split
   all_goals first
    |rfl
    |(rw[Option.map_map];rfl)
noncomputable def qH:Pc->Sv68.Piece
 | .text b=>.text b
 | .sign nm c=>if nm=dD then .place c else if nm=fB then .point else if nm=gu then .comma else if nm=gf then .percent else .itself
 | .exponent c=>.power (c==43)
 | .word nm n=>if nm=fK then .general else .half (n==3)
 | .part l n d=>.clock l n d
 | .passed l n d=>.passed l n d
 |_=>.text []
noncomputable def rH(s:Section)(p:Pc):Option Section:=match p with
 | .colour k=>if s.colour=0 then some {s with colour:=k}else none
 | .condition z x=>if s.condition.isNone=true then some {s with condition:=some (pF z,x)}else none
 |p=>some {s with pieces:=s.pieces++[qH p]}
def yW(b:cS)(i:Nat)(c:UInt8):Option (Pc×Nat):=match longest (lower c)with
 |some m=>some (.part (lower c) (fG b i (lower c)) (g_ (lower c) (b.drop (i+fG b i (lower c)))),fG b i (lower c)+more (g_ (lower c) (b.drop (i+fG b i (lower c)))))
 |none=>qJ b i c
def yX(b:cS)(i:Nat)(c:UInt8):Option (Pc×Nat):=match lF iK b i with
 |some x=>some (.word x.1 x.2,x.2)
 |none=>yW b i c
def yY(b:cS)(i:Nat)(c:UInt8):Option (Pc×Nat):=if c=69/\((b.drop (i+1)).take 1=[43]\/(b.drop (i+1)).take 1=[45])then some (.exponent ((b.drop (i+1)).headD 0),2)else yX b i c
def yZ(b:cS)(i:Nat)(c:UInt8):Option (Pc×Nat):=match je c with
 |some nm=>some (.sign nm c,1)
 |none=>yY b i c
def y9(b:cS)(i:Nat)(c:UInt8):Option (Pc×Nat):=if c=91 then brk b i else yZ b i c
def y_(b:cS)(i:Nat)(c:UInt8):Option (Pc×Nat):=if c=92\/c=95 then(b[i+1]?).map (λd=>(.text (o9 c d (b.drop (i+1))),1+f_ d))else y9 b i c
def lR(b:cS)(i:Nat)(c:UInt8):Option (Pc×Nat):=if c=34 then(if i+1+upTo b (i+1) 34=b.length then none else some (.text ((b.drop (i+1)).take (upTo b (i+1) 34)),upTo b (i+1) 34+2))else y_ b i c
def gS:Pc->Bool
 | .part l n _=>(match longest l with
  |some m=>decide (n<=m)
  |none=>true)
 |_=>true
def at9(b:cS)(i:Nat)(c:UInt8):rp b i c=(lR b i c).bind λx=>if gS x.1=true then some x else none:=by
 unfold rp lR;split
 .split<;>rfl
 unfold uT y_;split
 .cases b[i+1]? <;>rfl
 unfold uS y9;split
 .have:∀(o:Option (Pc×Nat)),(∀x,o=some x->gS x.1=true)->o=o.bind λx=>if gS x.1=true then some x else none:=λo h=>by
   cases o with
   |none=>rfl
   |some x=>rw[Option.bind_some,ah (h x rfl)]
  refine this _ λx hx=>?_;unfold brk at hx;split at hx
  .cases hx
  .unfold o8 at hx;split at hx
   .rw[<-aH hx];rfl
   .split at hx
    .rw[<-aH hx];rfl
    .split at hx
     .rw[<-aH hx];rfl
     .cases hx
 unfold wU yZ;cases hs:je c with
 |some nm=>rfl
 |none=>
 dsimp only;unfold wR yY;split
 .rfl
 unfold tD yX;cases hw:lF iK b i with
 |some x=>rfl
 |none=>
 dsimp only;unfold uR yW;cases hm:longest (lower c)with
 |some m=>
  dsimp only;rw[Option.bind_some];show _=if(match longest (lower c)with
   |some m=>decide (fG b i (lower c)<=m)
   |none=>true)=true then _ else _
  rw[hm];dsimp only
  by_cases h:fG b i (lower c)<=m
  .rw[aa (),ah (ak h)]
  .rw[ah (),aa (by simp[h])]
 |none=>
  dsimp only;unfold qJ;split<;>rfl
def Mc(l:cS)(p:UInt8->Bool):l.take (l.takeWhile p).length=l.takeWhile p:=(bY.mp (aT p)).symm
def vB(c:UInt8):(c=59->je c=none)/\(je c=if c=48\/c=35\/c=63 then some dD else if c=46 then some fB else if c=44 then some gu else if c=37 then some gf else if c=64 then some gG else none):=by
 refine⟨λe=>by rw[e];decide+kernel,rfl⟩
def FW{b w:cS}{i:Nat}{z:Str}(hz:eX z=bi w)(hl:z.length=w.length):jm (bi b) i z=decide (((b.drop i).take w.length).map lower=w):=by
 unfold jm;refine au.mpr ?_;rw[hl,hz];have e:(((bi b).drop i).take w.length).map jl=bi (((b.drop i).take w.length).map lower):=by
  unfold bi;rw[<-bH,<-bI,bT,bT];exact cC λc _=>rZ c
 rw[e];exact⟨BF,λh=>by rw[h]⟩
def ai1(c:UInt8):(Sv68.str "ymdhs").contains (lower c)=(longest (lower c)).isSome:=by
 have key:∀k:Fin 256,(Sv68.str "ymdhs").contains (lower (UInt8.ofNat k.val))=(longest (lower (UInt8.ofNat k.val))).isSome:=();have:=key ⟨c.toNat,c.toNat_lt⟩;simp only[cE]at this;exact this
def YU(c:UInt8):Sv68.plain c=decide (127<c.toNat\/vY c=true):=by
 have key:∀k:Fin 256,Sv68.plain (UInt8.ofNat k.val)=decide (127<(UInt8.ofNat k.val).toNat\/vY (UInt8.ofNat k.val)=true):=();have:=key ⟨c.toNat,c.toNat_lt⟩;simp only[cE]at this;exact this
def W_{b:cS}{i:Nat}{c:UInt8}{f:Nat}{s:Section}(hc:b[i]? =some c)(tV:c≠59)(hu:Wbk.utf8 (b.drop i)=true):
  Sv68.pieces (f+1) s (b.drop i)=(lR b i c).bind λx=>(rH s x.1).bind λs'=>Sv68.pieces f s' (b.drop (i+x.2)):=by
 have ed:=gh hc;have gv:=(aD.mp hc).1;have k7:(b.drop (i+1)).length=b.length-(i+1):=aQ ..;have rW:c.toNat<128->Wbk.utf8 (b.drop (i+1))=true:=λhl=>by
  rw[ed,utf8_ascii hl]at hu;exact hu
 have dd:∀n,(b.drop (i+1)).drop n=b.drop (i+(1+n)):=λn=>by rw[bz];congr 1;lia
 rw[ed,Sv68.pieces];dsimp only;rw[aa tV];unfold lR
 by_cases CQ:c=34
 .rw[ah CQ,ah CQ];have eu:((b.drop (i+1)).takeWhile λx=>x != 34).length=upTo b (i+1) 34:=rfl;have hle:=vN b (i+1) 34 ();have e1:(((b.drop (i+1)).takeWhile λx=>x != 34).length=(b.drop (i+1)).length)↔i+1+upTo b (i+1) 34=b.length:=by
   rw[eu,k7];lia
  by_cases iU:i+1+upTo b (i+1) 34=b.length
  .rw[ah (e1.mpr iU),ah iU];rfl
  .rw[aa λz=>iU (e1.mp z),aa iU,Option.bind_some];show _=(rH s (.text _)).bind _;rw[<-eu,Mc,dd,show i+(1+(((b.drop (i+1)).takeWhile λx=>x != 34).length+1))=i+(((b.drop (i+1)).takeWhile λx=>x != 34).length+2) by lia];rfl
 rw[aa CQ,aa CQ];unfold y_;have chr:c=92\/c=95->∀g:cS×cS->Option (Section×Option cS),(char1 (b.drop (i+1))).bind g=(b[i+1]?).bind λd=>g ((b.drop (i+1)).take (f_ d),b.drop (i+(1+f_ d))):=λh g=>by
  have gi:=rW (by rcases h with e|e<;>rw[e]<;>decide);cases hd:b[i+1]? with
  |none=>
   rw[bM (by have:=List.getElem?_eq_none_iff.mp hd;lia)];rfl
  |some d=>
   rw[gh hd]at gi ⊢;rw[L3 gi,Option.bind_some,Option.bind_some,<-gh hd,dd]
 by_cases xB:c=92
 .rw[ah xB,ah (.inl xB),chr (.inl xB)];cases b[i+1]? with
  |none=>rfl
  |some d=>
   dsimp only[Option.map_some,Option.bind_some];unfold o9;rw[aa (by rw[xB];decide)];rfl
 rw[aa xB]
 by_cases xA:c=95
 .rw[ah xA,ah (.inr xA),chr (.inr xA)];cases b[i+1]? with
  |none=>rfl
  |some d=>
   dsimp only[Option.map_some,Option.bind_some];unfold o9;rw[ah xA];rfl
 rw[aa xA,aa (show¬(c=92\/c=95)from λz=>z.elim xB xA)];unfold y9
 by_cases CO:c=91
 .rw[ah CO,ah CO];unfold brk;have eu:((b.drop (i+1)).takeWhile λx=>x != 93).length=upTo b (i+1) 93:=rfl;have hle:=vN b (i+1) 93 ();have e1:(((b.drop (i+1)).takeWhile λx=>x != 93).length=(b.drop (i+1)).length)↔i+1+upTo b (i+1) 93=b.length:=by
   rw[eu,k7];lia
  by_cases iU:i+1+upTo b (i+1) 93=b.length
  .rw[ah (e1.mpr iU),ah iU];rfl
  .rw[aa λz=>iU (e1.mp z),aa iU,<-eu,Mc,Yy];generalize ((b.drop (i+1)).takeWhile λx=>x != 93)=t;have eq:(b.drop (i+1)).drop (t.length+1)=b.drop (i+1+t.length+1):=by rw[bz];congr 1
   rw[eq];generalize aN9:t.map lower=low;have rO:oZ low=true->qy low=none:=by
    rw[<-aN9];exact aa6
   have dq:∀m,(b.drop (i+1+t.length+1)).drop m=b.drop (i+(t.length+2+m)):=λm=>by rw[bz];congr 1;lia
   have Iu:b.drop (i+1+t.length+1)=b.drop (i+(t.length+2+0)):=by congr 1;lia
   unfold o8
   by_cases g0:0<kG low
   .rw[ah g0,ah g0];dsimp only[Option.map_some,Option.bind_some];unfold rH;dsimp only;rw[Iu];split<;>rfl
   .rw[aa g0,aa g0]
    by_cases g1:oZ low=true
    .rw[ah g1,rO g1];dsimp only;rw[ah g1];dsimp only[Option.map_some,Option.bind_some]
     by_cases g2:low.headD 0=115
     .rw[g2];rw[show g_ 115 (b.drop (i+1+t.length+1))=tenths (b.drop (i+1+t.length+1))from rfl,show(if tenths (b.drop (i+1+t.length+1))=0 then 0 else tenths (b.drop (i+1+t.length+1))+1)=more (tenths (b.drop (i+1+t.length+1)))from rfl,dq];rfl
     .have ed0:g_ (low.headD 0) (b.drop (i+1+t.length+1))=0:=by
       unfold g_;rw[aa g2]
      rw[ed0];split
      .rename_i heq;cases heq
      .rename_i heq;cases heq
      .rename_i heq;injection heq with heq
       injection heq with heq
       injection heq with heq
       injection heq with heq
       exact(g2 heq).elim
      .rename_i p' _ heq;injection heq with heq
       injection heq with heq
       injection heq with heq
       rw[<-heq,Iu];rfl
      .rename_i heq;cases heq
    .rw[aa g1];cases hcn:qy low with
     |none=>
      dsimp only;rw[aa g1];rfl
     |some x=>
      dsimp only[Option.map_some,Option.bind_some];unfold rH;dsimp only;rw[Iu];split<;>rfl
 rw[aa CO,aa CO];unfold yZ;have one:b.drop (i+1)=b.drop (i+1):=rfl
 by_cases fh:c=48\/c=35\/c=63
 .have hs:je c=some dD:=by rw[(vB c).2,ah fh]
  rw[ah fh,hs];rfl
 rw[aa fh]
 by_cases vd:c=46
 .have hs:je c=some fB:=by rw[(vB c).2,aa fh,ah vd]
  rw[ah vd,hs];rfl
 rw[aa vd]
 by_cases tW:c=44
 .have hs:je c=some gu:=by rw[(vB c).2,aa fh,aa vd,ah tW]
  rw[ah tW,hs];rfl
 rw[aa tW]
 by_cases zZ:c=37
 .have hs:je c=some gf:=by rw[(vB c).2,aa fh,aa vd,aa tW,ah zZ]
  rw[ah zZ,hs];rfl
 rw[aa zZ]
 by_cases CP:c=64
 .have hs:je c=some gG:=by rw[(vB c).2,aa fh,aa vd,aa tW,aa zZ,ah CP]
  rw[ah CP,hs];rfl
 rw[aa CP];have hs:je c=none:=by rw[(vB c).2,aa fh,aa vd,aa tW,aa zZ,aa CP]
 rw[hs];dsimp only;unfold yY;have eE:((c::(b.drop (i+1)).take 1)=Sv68.str "E+"\/(c::(b.drop (i+1)).take 1)=Sv68.str "E-")↔(c=69/\((b.drop (i+1)).take 1=[43]\/(b.drop (i+1)).take 1=[45])):=by
  rw[show Sv68.str "E+"=[69,43] by decide+kernel,show Sv68.str "E-"=[69,45] by decide+kernel,List.cons.injEq,List.cons.injEq];constructor
  .rintro(⟨h1,h2⟩|⟨h1,h2⟩)
   .exact⟨h1,.inl h2⟩
   .exact⟨h1,.inr h2⟩
  .rintro⟨h1,h2|h2⟩
   .exact .inl ⟨h1,h2⟩
   .exact .inr ⟨h1,h2⟩
 by_cases hE:c=69/\((b.drop (i+1)).take 1=[43]\/(b.drop (i+1)).take 1=[45])
 .rw[ah (eE.mpr hE),ah hE,Option.bind_some];obtain⟨d,r',er⟩:∃d r',b.drop (i+1)=d::r':=by
   cases hh:b.drop (i+1)with
   |nil=>
    rw[hh]at hE;rcases hE.2 with h|h<;>cases h
   |cons d r'=>exact⟨d,r',rfl⟩
  have z8:(b.drop (i+1)).drop 1=b.drop (i+2):=dd 1;show Sv68.pieces f {s with pieces:=s.pieces++[.power ((b.drop (i+1)).head? ==some 43)]} ((b.drop (i+1)).drop 1)=Sv68.pieces f {s with pieces:=s.pieces++[.power ((b.drop (i+1)).headD 0==43)]} (b.drop (i+2));rw[z8,er];have:((d::r').head? ==some (43:UInt8))=((d::r').headD 0==43):=by
   rw[bC,beq_iff_eq,beq_iff_eq];simp
  rw[this]
 rw[aa λz=>hE (eE.mp z),aa hE];unfold yX iK;have w1:jm (bi b) i "general"=decide (((b.drop i).take 7).map lower=Sv68.str "general"):=FW (w:=Sv68.str "general") () ();have w2:jm (bi b) i "am/pm"=decide (((b.drop i).take 5).map lower=Sv68.str "am/pm"):=FW (w:=Sv68.str "am/pm") () ();have w3:jm (bi b) i "a/p"=decide (((b.drop i).take 3).map lower=Sv68.str "a/p"):=FW (w:=Sv68.str "a/p") () ();simp only[lF,w1,w2,w3,aq];rw[<-ed]
 by_cases g1:((b.drop i).take 7).map lower=Sv68.str "general"
 .rw[ah g1,ah g1,bz];rfl
 rw[aa g1,aa g1]
 by_cases g2:((b.drop i).take 5).map lower=Sv68.str "am/pm"
 .rw[ah g2,ah g2,bz];rfl
 rw[aa g2,aa g2]
 by_cases g3:((b.drop i).take 3).map lower=Sv68.str "a/p"
 .rw[ah g3,ah g3,bz];rfl
 rw[aa g3,aa g3];dsimp only;unfold yW;rw[ai1];cases hm:longest (lower c)with
 |some m=>
  rw[ah (show(some m).isSome=true from rfl)];dsimp only[Option.bind_some];have ern:((b.drop i).takeWhile λx=>lower x==lower c).length=fG b i (lower c):=rfl;rw[ern,bz];have ek:(if lower c=115 then tenths (b.drop (i+fG b i (lower c)))else 0)=g_ (lower c) (b.drop (i+fG b i (lower c))):=rfl;rw[ek];have em:(if g_ (lower c) (b.drop (i+fG b i (lower c)))=0 then 0 else g_ (lower c) (b.drop (i+fG b i (lower c)))+1)=more (g_ (lower c) (b.drop (i+fG b i (lower c)))):=rfl;rw[em,bz,Nat.add_assoc];rfl
 |none=>
  rw[aa (show¬(none:Option Nat).isSome=true by decide),YU];unfold qJ
  by_cases hq:127<c.toNat\/vY c=true
  .rw[ah (ak hq),ah hq];rw[ed]at hu;rw[ed,L3 hu,<-ed,bz];rfl
  .rw[aa (λz=>hq (aj z)),aa hq];rfl
def Bx{b:cS}{i n:Nat}{c:UInt8}{p:Pc}(hc:b[i]? =some c)(hu:Wbk.utf8 (b.drop i)=true)(h:lR b i c=some (p,n)):1<=n/\i+n<=b.length/\Wbk.utf8 (b.drop (i+n))=true:=by
 have gv:=(aD.mp hc).1;have ed:=gh hc;have rW:c.toNat<128->Wbk.utf8 (b.drop (i+1))=true:=λhl=>by
  rw[ed,utf8_ascii hl]at hu;exact hu
 have z_:∀d:UInt8,d.toNat<128->i+1+upTo b (i+1) d<b.length->Wbk.utf8 (b.drop (i+1+upTo b (i+1) d+1))=true:=λd hd eF=>by
  have e:=J3 eF;rw[ed,e,<-bK]at hu;exact vq hd _ _ _ (aI _) hu
 unfold lR at h;split at h
 .split at h
  .cases h
  .rename_i h1 h2;have hle:=vN b (i+1) 34 ();have eF:i+1+upTo b (i+1) 34<b.length:=();have:=cy (aH h);obtain rfl:=this.2;refine⟨(),(),?_⟩;have:=z_ 34 () eF;rw[show i+(upTo b (i+1) 34+2)=i+1+upTo b (i+1) 34+1 by lia];exact this
 .unfold y_ at h;split at h
  .rename_i h1 h2;have hl:c.toNat<128:=by rcases h2 with e|e<;>rw[e]<;>decide
   cases hd:b[i+1]? with
   |none=>
    rw[hd]at h;cases h
   |some d=>
    rw[hd]at h;have:=cy (aH h);obtain rfl:=this.2;have gi:=rW hl;rw[gh hd]at gi;obtain⟨g1,g2,g3⟩:=AB gi;rw[aQ]at g2;have:=(aD.mp hd).1;refine⟨(),(),?_⟩;rw[<-gh hd,bz]at g3;rw[show i+(1+f_ d)=i+1+f_ d by lia];exact g3
  .unfold y9 at h;split at h
   .rename_i h1 h2 h3;unfold brk at h;split at h
    .cases h
    .rename_i h4;have hle:=vN b (i+1) 93 ();have eF:i+1+upTo b (i+1) 93<b.length:=();have gi:=z_ 93 () eF;generalize upTo b (i+1) 93=u at*;have go:∀m,m<=(b.drop (i+1+u+1)).length->Wbk.utf8 ((b.drop (i+1+u+1)).drop m)=true->n=u+2+m->1<=n/\i+n<=b.length/\Wbk.utf8 (b.drop (i+n))=true:=λm h5 h6 h7=>by
      subst h7;rw[aQ]at h5;rw[bz]at h6;refine⟨(),(),?_⟩;rw[show i+(u+2+m)=i+1+u+1+m by lia];exact h6
     unfold o8 at h;split at h
     .have:=cy (aH h);exact go 0 (aP _) gi this.2.symm
     .split at h
      .have:=cy (aH h);exact go 0 (aP _) gi this.2.symm
      .split at h
       .have:=cy (aH h);have hd:=AQ (l:=(List.map lower (List.take u (List.drop (i+1) b))).headD 0) gi;exact go _ hd.1 hd.2 this.2.symm
       .cases h
   .unfold yZ at h;split at h
    .rename_i nm hs;have:=cy (aH h);obtain rfl:=this.2;have hl:c.toNat<128:=by
      unfold je at hs
      repeat' split at hs
      all_goals first
       |cases hs;done
       |(rename_i e;rcases e with e|e|e<;>rw[e]<;>decide)
       |(rename_i e;rw[e];decide)
     exact⟨(),(),rW hl⟩
    .unfold yY at h;split at h
     .rename_i h5;have:=cy (aH h);obtain rfl:=this.2;have gi:=rW (by rw[h5.1];decide);cases hd:b[i+1]? with
      |none=>
       have:b.drop (i+1)=[]:=bM (by
        have:=List.getElem?_eq_none_iff.mp hd;lia)
       rw[this]at h5;rcases h5.2 with h|h<;>cases h
      |some d=>
       have:=(aD.mp hd).1;rw[gh hd]at gi h5;have z8:d.toNat<128:=by
        rcases h5.2 with h|h<;>(have:=List.cons.inj h;rw[this.1];decide)
       rw[utf8_ascii z8]at gi;exact⟨(),(),gi⟩
     .unfold yX at h;split at h
      .rename_i x hw;have:=cy (aH h);obtain rfl:=this.2;have key:∀y:Str×Str,y∈iK->jm (bi b) i y.1=true->1<=y.1.length/\i+y.1.length<=b.length/\∀z∈(b.drop i).take y.1.length,z.toNat<128:=by
        intro y hy mL;unfold jm at mL;have mL:=aj mL;have e1:((bi b).drop i).take y.1.length=bi ((b.drop i).take y.1.length):=by
         unfold bi;rw[bI,bH]
        rw[e1]at mL;have facts:∀y∈iK,1<=y.1.length/\(eX y.1).length=y.1.length/\∀n∈eX y.1,n<128:=();obtain⟨f1,f2,f3⟩:=facts y hy;have hlen:((b.drop i).take y.1.length).length=y.1.length:=by
         have:=cI List.length mL;rw[az,p_,f2]at this;exact this
        rw[aW,aQ]at hlen;refine⟨f1,(),λz hz=>?_⟩;have hm:jl (z.toNat:Int)∈eX y.1:=by
         rw[<-mL];exact List.mem_map_of_mem (List.mem_map_of_mem hz)
        have:=f3 _ hm;rw[rZ]at this;exact Ao ()
       have hx:∃y∈iK,jm (bi b) i y.1=true/\x.2=y.1.length:=by
        have gen:∀l:List (Str×Str),(∀y∈l,y∈iK)->lF l b i=some x->∃y∈iK,jm (bi b) i y.1=true/\x.2=y.1.length:=by
         intro l
         induction l with
         |nil=>intro _ h;cases h
         |cons y l ih=>
          intro hl h;rw[vv]at h;split at h
          .rename_i hb;refine⟨y,hl y aB,hb,?_⟩;rw[<-aH h]
          .exact ih (λz hz=>hl z (aA _ hz)) h
        exact gen iK (λ_ h=>h) hw
       obtain⟨y,hy,hb,ey⟩:=hx;obtain⟨g1,g2,g3⟩:=key y hy hb;rw[ey];refine⟨g1,g2,?_⟩;have:=vA y.1.length (b.drop i) (by rw[aQ];lia) g3 hu;rw[bz]at this;exact this
      .unfold yW at h;split at h
       .rename_i m hm;have:=cy (aH h);obtain rfl:=this.2;have Gx:∀z∈(b.drop i).take (fG b i (lower c)),z.toNat<128:=λz hz=>by
         unfold fG at hz;rw[(bY.mp (aT (λx=>lower x==lower c) (l:=b.drop i))).symm]at hz;have e:lower z=lower c:=by simpa using Bu hz
         refine Ao ?_;rw[e];unfold longest at hm
         repeat' split at hm
         all_goals first
          |cases hm;done
          |(rename_i e;rw[e];decide)
        have hr1:1<=fG b i (lower c):=by
         unfold fG;rw[ed,aF,ah (by simp),aK];lia
        have pH:fG b i (lower c)<=(b.drop i).length:=(aT _).length_le;have gi:=vA _ (b.drop i) pH Gx hu;rw[bz]at gi;rw[aQ]at pH;obtain⟨d1,d2⟩:=AQ (l:=lower c) gi;rw[aQ]at d1;rw[bz]at d2;refine⟨(),(),?_⟩;rw[<-Nat.add_assoc];exact d2
       .unfold qJ at h;split at h
        .have:=cy (aH h);obtain rfl:=this.2;rw[ed]at hu;obtain⟨g1,g2,g3⟩:=AB hu;rw[aQ]at g2;rw[<-ed,bz]at g3;exact⟨g1,(),g3⟩
        .cases h
noncomputable def nR(b:cS):Nat->Nat->Option (List Pc×Option Nat)
 |0,_=>none
 |f+1,i=>match b[i]? with
  |none=>some ([],none)
  |some c=>if c=59 then some ([],some (i+1))else(lR b i c).bind λx=>(nR b f (i+x.2)).map λy=>(x.1::y.1,y.2)
noncomputable def gW(b:cS):Nat->Nat->Option (List (List Pc))
 |0,_=>none
 |f+1,i=>match b[i]? with
  |none=>some [[]]
  |some c=>if c=59 then(gW b f (i+1)).map λl=>[]::l else(lR b i c).bind λx=>(gW b f (i+x.2)).map λl=>l.modifyHead λt=>x.1::t
def jR(s:Section):List Pc->Option Section
 |[]=>some s
 |p::r=>(rH s p).bind λs'=>jR s' r
theorem KJ{b:cS}:∀(f i:Nat) (s:Section),i<=b.length->Wbk.utf8 (b.drop i)=true->
  Sv68.pieces f s (b.drop i)=(nR b f i).bind λy=>(jR s y.1).map λs'=>(s',y.2.map λj=>b.drop j)
 |0,i,s,_,_=>by rw[Sv68.pieces,nR];rfl
 |f+1,i,s,hi,hu=>by
  rw[nR];cases hc:b[i]? with
  |none=>
   have e:b.drop i=[]:=bM (List.getElem?_eq_none_iff.mp hc);rw[e,Sv68.pieces];rfl
  |some c=>
   dsimp only
   by_cases tV:c=59
   .rw[ah tV,gh hc,Sv68.pieces];dsimp only;rw[ah tV];rfl
   .rw[aa tV,W_ hc tV hu];cases hx:lR b i c with
    |none=>rfl
    |some x=>
     obtain⟨p,n⟩:=x;obtain⟨g1,g2,g3⟩:=Bx hc hu hx;dsimp only[Option.bind_some];have ih:=λs'=>KJ f (i+n) s' g2 g3;cases hp:nR b f (i+n)with
     |none=>
      rw[hp]at ih;cases rH s p with
      |none=>rfl
      |some s'=>exact ih s'
     |some y=>
      rw[hp]at ih;show _=(Option.map _ ((rH s p).bind λs'=>jR s' y.1));cases rH s p with
      |none=>rfl
      |some s'=>exact ih s'
theorem NZ{b:cS}:∀{f i:Nat} {y:List Pc×Option Nat},i<=b.length->Wbk.utf8 (b.drop i)=true->nR b f i=some y->∀j,y.2=some j->i<j/\j<=b.length/\Wbk.utf8 (b.drop j)=true
 |0,i,y,_,_,h=>by cases h
 |f+1,i,y,hi,hu,h=>by
  rw[nR]at h;cases hc:b[i]? with
  |none=>
   rw[hc]at h;rw[<-aH h];intro j e;cases e
  |some c=>
   rw[hc]at h;dsimp only at h;have gv:=(aD.mp hc).1;split at h
   .rename_i tV;rw[<-aH h];intro j e;have e:i+1=j:=aH e;subst e;refine⟨(),gv,?_⟩;rw[gh hc,utf8_ascii (by rw[tV];decide)]at hu;exact hu
   .obtain⟨x,hx,h⟩:=aO.mp h;obtain⟨z,hz,e⟩:=aG.mp h;obtain⟨g1,g2,g3⟩:=Bx hc hu (p:=x.1) (n:=x.2) hx;rw[<-e];intro j ej;have:=NZ g2 g3 hz j ej;exact⟨(),this.2⟩
theorem Ex{b:cS}:∀(f f' i:Nat),i<=b.length->Wbk.utf8 (b.drop i)=true->b.length-i+1<=f->b.length-i+1<=f'->gW b f i=gW b f' i
 |0,f',i,hi,hu,h,h'=>()
 |f+1,0,i,hi,hu,h,h'=>()
 |f+1,f'+1,i,hi,hu,h,h'=>by
  rw[gW,gW];cases hc:b[i]? with
  |none=>rfl
  |some c=>
   have gv:=(aD.mp hc).1;dsimp only;split
   .rename_i e;have gi:Wbk.utf8 (b.drop (i+1))=true:=by
     rw[gh hc,utf8_ascii (by rw[e];decide)]at hu;exact hu
    rw[Ex f f' (i+1) gv gi () ()]
   .cases hx:lR b i c with
    |none=>rfl
    |some x=>
     obtain⟨p,n⟩:=x;obtain⟨g1,g2,g3⟩:=Bx hc hu hx;show(gW b f (i+n)).map _=(gW b f' (i+n)).map _;rw[Ex f f' (i+n) g2 g3 () ()]
theorem Ft{b:cS}:∀(f i:Nat),i<=b.length->Wbk.utf8 (b.drop i)=true->b.length-i+1<=f->
  gW b f i=(nR b f i).bind λy=>match y.2 with
   |none=>some [y.1]
   |some j=>(gW b (b.length-j+1) j).map λl=>y.1::l
 |0,i,_,_,h=>()
 |f+1,i,hi,hu,h=>by
  rw[gW,nR];cases hc:b[i]? with
  |none=>rfl
  |some c=>
   have gv:=(aD.mp hc).1;dsimp only;split
   .rename_i e;have gi:Wbk.utf8 (b.drop (i+1))=true:=by
     rw[gh hc,utf8_ascii (by rw[e];decide)]at hu;exact hu
    show(gW b f (i+1)).map _=(gW b (b.length-(i+1)+1) (i+1)).map _;rw[Ex f (b.length-(i+1)+1) (i+1) gv gi () ()]
   .cases hx:lR b i c with
    |none=>rfl
    |some x=>
     obtain⟨p,n⟩:=x;obtain⟨g1,g2,g3⟩:=Bx hc hu hx;show(gW b f (i+n)).map _=((nR b f (i+n)).map _).bind _;rw[Ft f (i+n) g2 g3 ()];cases nR b f (i+n)with
     |none=>rfl
     |some y=>
      obtain⟨y1,y2⟩:=y;cases y2 with
      |none=>rfl
      |some j=>
       show Option.map _ ((gW b (b.length-j+1) j).map _)=(gW b (b.length-j+1) j).map _;rw[Option.map_map];rfl
def rD:List (List Pc)->Option Picture
 |[]=>some []
 |x::r=>(jR ⟨0,none,[]⟩ x).bind λs=>(rD r).map λl=>s::l
def au4{b:cS}{f i:Nat}(hi:i<=b.length)(hu:Wbk.utf8 (b.drop i)=true)(hf:b.length-i+1<=f){l:List (List Pc)}(h:gW b f i=some l):l≠[]:=by
 rw[Ft f i hi hu hf]at h;obtain⟨y,_,h⟩:=aO.mp h;split at h
 .rw[<-aH h];simp
 .obtain⟨z,_,e⟩:=aG.mp h;rw[<-e];simp
theorem JP{b:cS}:∀(k i:Nat),i<=b.length->Wbk.utf8 (b.drop i)=true->
  Sv68.sections k (b.drop i)=(gW b (b.length-i+1) i).bind λls=>if ls.length<=k then rD ls else none
 |0,i,hi,hu=>by
  rw[Sv68.sections];cases h:gW b (b.length-i+1) i with
  |none=>rfl
  |some ls=>
   have:=au4 hi hu (aI _) h;rw[Option.bind_some,aa];intro z;exact this (List.length_eq_zero_iff.mp ())
 |k+1,i,hi,hu=>by
  rw[Sv68.sections,aQ,KJ _ i _ hi hu,Ft _ i hi hu (aI _)];cases hp:nR b (b.length-i+1) i with
  |none=>rfl
  |some y=>
   have on:=NZ hi hu hp;obtain⟨y1,y2⟩:=y;dsimp only[Option.bind_some];cases y2 with
   |none=>
    dsimp only[Option.bind_some,Option.map_none];rw[ah (by simp)];show _=(jR ⟨0,none,[]⟩ y1).bind λs=>some [s];cases jR ⟨0,none,[]⟩ y1<;>rfl
   |some j=>
    obtain⟨g1,g2,g3⟩:=on j rfl;dsimp only[Option.map_some];have ih:=JP k j g2 g3;cases hl:gW b (b.length-j+1) j with
    |none=>
     rw[hl]at ih;cases jR ⟨0,none,[]⟩ y1 with
     |none=>rfl
     |some s=>
      show(Sv68.sections k (b.drop j)).map _=none;rw[ih];rfl
    |some ls=>
     rw[hl]at ih;dsimp only[Option.map_some,Option.bind_some];rw[aK];cases ha:jR ⟨0,none,[]⟩ y1 with
     |none=>
      show none=if _ then rD (y1::ls)else none;rw[rD,ha];split<;>rfl
     |some s=>
      show(Sv68.sections k (b.drop j)).map _=_;rw[ih,Option.bind_some,rD,ha]
      by_cases hk:ls.length<=k
      .rw[ah hk,ah ()];rfl
      .rw[aa hk,aa ()];rfl
theorem My{b:cS}:∀{f i:Nat} {l:List (List Pc)},gW b f i=some l->l≠[]
 |0,_,_,h=>by cases h
 |f+1,i,l,h=>by
  rw[gW]at h;split at h
  .rw[<-aH h];simp
  .split at h
   .obtain⟨x,_,e⟩:=aG.mp h;rw[<-e];simp
   .obtain⟨x,_,h⟩:=aO.mp h;obtain⟨y,hy,e⟩:=aG.mp h;have:=My hy;rw[<-e];cases y with
    |nil=>exact(this rfl).elim
    |cons _ _=>simp
theorem Bc{b:cS}:∀f i,gn b f i=(gW b f i).bind λls=>if ls.all (λps=>ps.all gS)=true then some ls else none
 |0,i=>rfl
 |f+1,i=>by
  rw[gn,gW];cases b[i]? with
  |none=>rfl
  |some c=>
   dsimp only;split
   .rw[Bc f (i+1)];cases gW b f (i+1)with
    |none=>rfl
    |some l=>
     show Option.map _ (if _ then some l else none)=if([]::l).all (λps=>ps.all gS)=true then some ([]::l)else none;rw[bu,List.all_nil,aY];split<;>rfl
   .rw[at9];cases lR b i c with
    |none=>rfl
    |some x=>
     dsimp only[Option.bind_some];have ih:=Bc (b:=b) f (i+x.2)
     by_cases h:gS x.1=true
     .rw[ah h,Option.bind_some,ih];cases gW b f (i+x.2)with
      |none=>rfl
      |some l=>
       show Option.map _ (if _ then some l else none)=if(l.modifyHead λt=>x.1::t).all (λps=>ps.all gS)=true then some _ else none;have e:(l.modifyHead λt=>x.1::t).all (λps=>ps.all gS)=l.all (λps=>ps.all gS):=by
        cases l with
        |nil=>rfl
        |cons t r=>simp[h]
       rw[e];split<;>rfl
     .rw[aa h,Option.bind_none];cases hl:gW b f (i+x.2)with
      |none=>rfl
      |some l=>
       cases l with
       |nil=>exact(My hl rfl).elim
       |cons t r=>
        show none=if((x.1::t)::r).all (λps=>ps.all gS)=true then _ else none;rw[bu,bu,Bool.eq_false_iff.mpr h];rfl
def Good(p:Pc):Prop:=Named p/\match p with
 | .colour k=>1<=k
 | .part l _ _=>(longest l).isSome=true
 |_=>True
def Z7{b:cS}{i n:Nat}{c:UInt8}{p:Pc}(h:lR b i c=some (p,n)):Good p:=by
 unfold lR at h;split at h
 .split at h
  .cases h
  .rw[<-(cy (aH h)).1];exact⟨trivial,trivial⟩
 unfold y_ at h;split at h
 .cases hd:b[i+1]? with
  |none=>rw[hd]at h;cases h
  |some d=>
   rw[hd]at h;rw[<-(cy (aH h)).1];exact⟨trivial,trivial⟩
 unfold y9 at h;split at h
 .unfold brk at h;split at h
  .cases h
  .unfold o8 at h;split at h
   .rename_i hk;rw[<-(cy (aH h)).1];exact⟨trivial,hk⟩
   .split at h
    .rw[<-(cy (aH h)).1];exact⟨trivial,trivial⟩
    .split at h
     .rw[<-(cy (aH h)).1];exact⟨trivial,trivial⟩
     .cases h
 unfold yZ at h;split at h
 .rename_i nm hs;rw[<-(cy (aH h)).1];exact⟨J4 hs,trivial⟩
 unfold yY at h;split at h
 .rw[<-(cy (aH h)).1];exact⟨trivial,trivial⟩
 unfold yX at h;split at h
 .rename_i x hw;rw[<-(cy (aH h)).1];refine⟨?_,trivial⟩;show x.1=fK\/x.1=gZ;have gen:∀l:List (Str×Str),(∀y∈l,y.2=fK\/y.2=gZ)->lF l b i=some x->x.1=fK\/x.1=gZ:=by
   intro l
   induction l with
   |nil=>intro _ h;cases h
   |cons y l ih=>
    intro hl h;rw[vv]at h;split at h
    .rw[<-aH h];exact hl y aB
    .exact ih (λz hz=>hl z (aA _ hz)) h
  exact gen iK () hw
 unfold yW at h;split at h
 .rename_i m hm;rw[<-(cy (aH h)).1];exact⟨trivial,by show(longest (lower c)).isSome=true;rw[hm];rfl⟩
 .unfold qJ at h;split at h
  .rw[<-(cy (aH h)).1];exact⟨trivial,trivial⟩
  .cases h
theorem AV{b:cS}:∀{f i:Nat} {l:List (List Pc)},gW b f i=some l->∀ps∈l,∀p∈ps,Good p
 |0,_,_,h=>by cases h
 |f+1,i,l,h=>by
  rw[gW]at h;split at h
  .rw[<-aH h];intro ps hps;rw[List.mem_singleton.mp hps];intro p hp;cases hp
  .split at h
   .obtain⟨x,hx,e⟩:=aG.mp h;rw[<-e];intro ps hps;rcases aN.mp hps with e|hps
    .rw[e];intro p hp;cases hp
    .exact AV hx ps hps
   .obtain⟨x,hx,h⟩:=aO.mp h;obtain⟨y,hy,e⟩:=aG.mp h;rw[<-e];have ih:=AV hy;cases y with
    |nil=>intro ps hps;cases hps
    |cons t r=>
     intro ps hps;rcases aN.mp hps with e|hps
     .rw[e];intro p hp;rcases aN.mp hp with e|hp
      .rw[e];exact Z7 hx
      .exact ih t aB p hp
     .exact ih ps (aA _ hps)
def fR:Pc->Option Sv68.Piece
 | .colour _=>none
 | .condition _ _=>none
 |p=>some (qH p)
theorem M0:∀(ps:List Pc) (s:Section),(∀p∈ps,Good p)->jR s ps=if(ps.filterMap g9).length+(if s.colour=0 then 0 else 1)<=1/\(ps.filterMap jN).length+(if s.condition.isNone=true then 0 else 1)<=1 then
  some ⟨s.colour+(ps.filterMap g9).sum,s.condition.or ((ps.filterMap jN).head?.map λx=>(pF x.1,x.2)),s.pieces++ps.filterMap fR⟩else none
 |[],s,_=>by
  rw[jR,ah (by constructor<;>(simp;split<;>lia))];simp
 |p::ps,s,h=>by
  have ih:=λs'=>M0 ps s' λq hq=>h q (aA _ hq);have plain:g9 p=none->jN p=none->rH s p=some {s with pieces:=s.pieces++[qH p]}->fR p=some (qH p)->_:=λh1 h2 h3 h4=>show jR s (p::ps)=if((p::ps).filterMap g9).length+(if s.colour=0 then 0 else 1)<=1/\((p::ps).filterMap jN).length+(if s.condition.isNone=true then 0 else 1)<=1 then
    some ⟨s.colour+((p::ps).filterMap g9).sum,s.condition.or (((p::ps).filterMap jN).head?.map λx=>(pF x.1,x.2)),s.pieces++(p::ps).filterMap fR⟩else none by
   rw[jR,h3,Option.bind_some,ih,aJ,aJ,aJ,h1,h2,h4];dsimp only;rw[bw];rfl
  cases p with
  |colour k=>
   have hk:1<=k:=(h (.colour k) aB).2;rw[jR,aJ,aJ,aJ];show(if s.colour=0 then some {s with colour:=k}else none).bind _=_;dsimp only[g9,jN,fR]
   by_cases h0:s.colour=0
   .rw[ah h0,Option.bind_some,ih];have ek:(if k=0 then(0:Nat)else 1)=1:=aa ();have k0:k≠0:=();simp[h0,k0]
   .simp[h0]
  |condition z x=>
   rw[jR,aJ,aJ,aJ];show(if s.condition.isNone=true then some {s with condition:=some (pF z,x)}else none).bind _=_;dsimp only[g9,jN,fR]
   by_cases h0:s.condition.isNone=true
   .rw[ah h0,Option.bind_some,ih];dsimp only;have e0:s.condition=none:=Option.isNone_iff_eq_none.mp h0;rw[e0];simp
   .have h1:s.condition.isNone=false:=Bool.eq_false_iff.mpr h0;simp[h1]
  |text b=>exact plain rfl rfl rfl rfl
  |sign nm c=>exact plain rfl rfl rfl rfl
  |exponent c=>exact plain rfl rfl rfl rfl
  |word nm n=>exact plain rfl rfl rfl rfl
  |part l n d=>exact plain rfl rfl rfl rfl
  |passed l n d=>exact plain rfl rfl rfl rfl
def qh:Sv68.Piece->Bool
 | .power _=>true
 |_=>false
def Lm{nm:Str}{c:UInt8}(h:Named (.sign nm c)):(nm=dD/\qH (.sign nm c)= .place c)\/(nm=fB/\qH (.sign nm c)= .point)\/(nm=gu/\qH (.sign nm c)= .comma)\/(nm=gf/\qH (.sign nm c)= .percent)\/(nm=gG/\qH (.sign nm c)= .itself):=by
 have h:nm=dD\/nm=fB\/nm=gu\/nm=gf\/nm=gG:=h;have n1:fB≠dD:=();have n2:gu≠dD/\gu≠fB:=();have n3:gf≠dD/\gf≠fB/\gf≠gu:=();have n4:gG≠dD/\gG≠fB/\gG≠gu/\gG≠gf:=();unfold qH;dsimp only;rcases h with e|e|e|e|e
 .exact .inl ⟨e,ah e⟩
 .exact .inr (.inl ⟨e,by rw[e,aa n1,ah rfl]⟩)
 .exact .inr (.inr (.inl ⟨e,by rw[e,aa n2.1,aa n2.2,ah rfl]⟩))
 .exact .inr (.inr (.inr (.inl ⟨e,by rw[e,aa n3.1,aa n3.2.1,aa n3.2.2,ah rfl]⟩)))
 .exact .inr (.inr (.inr (.inr ⟨e,by rw[e,aa n4.1,aa n4.2.1,aa n4.2.2.1,aa n4.2.2.2]⟩)))
structure Facts(p:Pc)(q:Sv68.Piece):Prop where
 text:isText q=decide (p.name=iD)
 at_:(q==Sv68.Piece.itself)=decide (p.name=gG)
 general:(q==Sv68.Piece.general)=decide (p.name=fK)
 clock:isClock q=decide (p.name∈qA)
 digits:isDigits q=decide (p.name∈oU)
 place:Sv68.isPlace q=decide (p.name=dD)
 point:(q==Sv68.Piece.point)=decide (p.name=fB)
 comma:(q==Sv68.Piece.comma)=decide (p.name=gu)
 percent:(q==Sv68.Piece.percent)=decide (p.name=gf)
 power:qh q=decide (p.name=fc)
 zero:(q==Sv68.Piece.place 48)=isZero p
 cc:nu p=true
 free:decide (p.name∈mJ)=decide (p.name=iD)
def facts{p:Pc}{q:Sv68.Piece}(hg:Good p)(h:fR p=some q):Facts p q:=by
 cases p with
 |colour k=>cases h
 |condition z x=>cases h
 |text b=>
  obtain rfl:=aH h;constructor<;>first |rfl|(show _=_;decide+kernel)
 |exponent c=>
  obtain rfl:=aH h;constructor<;>first |rfl|(show _=_;decide+kernel)
 |part l n d=>
  obtain rfl:=aH h;constructor<;>first |rfl|(show _=_;decide+kernel)
 |passed l n d=>
  obtain rfl:=aH h;constructor<;>first |rfl|(show _=_;decide+kernel)
 |word nm n=>
  obtain rfl:=aH h;have hn:nm=fK\/nm=gZ:=hg.1;rcases hn with rfl|rfl
  .constructor<;>first |rfl|(show _=_;decide+kernel)
  .constructor<;>first |rfl|(show _=_;decide+kernel)
 |sign nm c=>
  obtain rfl:=aH h;rcases Lm hg.1 with⟨rfl,e⟩|⟨rfl,e⟩|⟨rfl,e⟩|⟨rfl,e⟩|⟨rfl,e⟩
  .rw[e];constructor<;>first |rfl|(show _=_;decide+kernel)|skip
   show(Sv68.Piece.place c==Sv68.Piece.place 48)=(decide (dD=dD)&&decide (c=48));rw[bC];simp
  .rw[e];constructor<;>first |rfl|(show _=_;decide+kernel)
  .rw[e];constructor<;>first |rfl|(show _=_;decide+kernel)
  .rw[e];constructor<;>first |rfl|(show _=_;decide+kernel)
  .rw[e];constructor<;>first |rfl|(show _=_;decide+kernel)
def mW{p:Pc}(h:fR p=none):(p.name=gr\/p.name=gq)/\nu p=false/\decide (p.name∈mJ)=true/\gS p=true:=by
 cases p with
 |colour k=>exact⟨.inl rfl,by show(!decide (gr=gr)&& !decide (gr=gq))=false;decide+kernel,by show decide (gr∈mJ)=true;decide+kernel,rfl⟩
 |condition z x=>exact⟨.inr rfl,by show(!decide (gq=gr)&& !decide (gq=gq))=false;decide+kernel,by show decide (gq∈mJ)=true;decide+kernel,rfl⟩
 |_=>cases h
section
variable {ps:List Pc}
abbrev lp(ps:List Pc):List Sv68.Piece:=ps.filterMap fR
def m8(p:Pc)(ps:List Pc):lp (p::ps)=match fR p with
  |none=>lp ps
  |some q=>q::lp ps:=by
 unfold lp;rw[aJ];cases fR p<;>rfl
theorem v_{f:Sv68.Piece->Bool}{g:Str->Bool}(hf:∀p q,Good p->fR p=some q->f q=g p.name):∀{ps:List Pc},(∀p∈ps,Good p)->(lp ps).all (λq=>isText q||f q)=(iN ps).all g
 |[],_=>rfl
 |p::ps,h=>by
  have ih:=v_ hf (ps:=ps) λq hq=>h q (aA _ hq);have hp:=h p aB;rw[m8];unfold iN at ih ⊢;rw[aX,List.filter_cons];cases ht:fR p with
  |none=>
   rw[(mW ht).2.2.1];exact ih
  |some q=>
   have F:=facts hp ht;dsimp only;rw[bu,F.text,F.free,hf p q hp ht,ih]
   by_cases e:p.name=iD
   .rw[ak e];rfl
   .rw[ao e];rfl
theorem ur{f:Sv68.Piece->Bool}{x:Str}(hx:x≠gr/\x≠gq)(hf:∀p q,Good p->fR p=some q->f q=decide (p.name=x)):∀{ps:List Pc},(∀p∈ps,Good p)->((lp ps).filter f).length=(ps.map Pc.name).count x
 |[],_=>rfl
 |p::ps,h=>by
  have ih:=ur hx hf (ps:=ps) λq hq=>h q (aA _ hq);have hp:=h p aB;rw[m8,aX,List.count_cons];cases ht:fR p with
  |none=>
   have hn:p.name≠x:=λe=>by
    rcases(mW ht).1 with z|z
    .exact hx.1 (e.symm.trans z)
    .exact hx.2 (e.symm.trans z)
   dsimp only;rw[ih,aa (by simpa using hn)];rfl
  |some q=>
   dsimp only;rw[List.filter_cons,hf p q hp ht]
   by_cases e:p.name=x
   .rw[ak e,ah rfl,aK,ih,ah (by simpa using e)]
   .rw[ao e,aa (by simp),ih,aa (by simpa using e)];rfl
theorem vQ{f:Sv68.Piece->Bool}{g:Pc->Bool}(hf:∀p q,Good p->fR p=some q->f q=g p)(hn:∀p,fR p=none->g p=true):∀{ps:List Pc},(∀p∈ps,Good p)->(lp ps).takeWhile f=lp (ps.takeWhile g)/\(lp ps).dropWhile f=lp (ps.dropWhile g)
 |[],_=>⟨rfl,rfl⟩
 |p::ps,h=>by
  have ih:=vQ hf hn (ps:=ps) λq hq=>h q (aA _ hq);have hp:=h p aB;rw[m8,aF,bU];cases ht:fR p with
  |none=>
   dsimp only;rw[hn p ht,ah rfl,ah rfl,m8,ht];exact ih
  |some q=>
   dsimp only;rw[aF,bU,hf p q hp ht];cases g p with
   |true=>
    rw[ah rfl,ah rfl,ah rfl,ah rfl,m8,ht];exact⟨by rw[ih.1],ih.2⟩
   |false=>
    simp only[Bool.false_eq_true,if_false];exact⟨rfl,by rw[m8,ht]⟩
def vU{α:Type}(l:List α)(p:α->Bool):l.drop (l.takeWhile p).length=l.dropWhile p:=by
 have e:=bO (p:=p) (l:=l);have:=List.drop_left (l₁:=l.takeWhile p) (l₂:=l.dropWhile p);rw[e]at this;exact this
def gj(p:Pc):Bool:=!decide (p.name=fB)
def fj(p:Pc):Bool:=!decide (p.name=fc)
theorem rz{x:Str}:∀ps:List Pc,(ps.map Pc.name).takeWhile (λy=>!decide (y=x))=(ps.takeWhile λp=>!decide (p.name=x)).map Pc.name/\(ps.map Pc.name).dropWhile (λy=>!decide (y=x))=(ps.dropWhile λp=>!decide (p.name=x)).map Pc.name
 |[]=>⟨rfl,rfl⟩
 |p::ps=>by
  have ih:=rz (x:=x) ps;rw[aX,aF,bU,aF,bU]
  by_cases h:p.name=x
  .simp[h]
  .simp[h,ih.1,ih.2]
def AH{x:Str}{l:List Str}:(1<=l.count x)↔x∈l:=List.count_pos_iff
def qW{x:Str}{l:List Str}:l.count x=0↔¬x∈l:=List.count_eq_zero
variable {ps:List Pc}
def vF(h:∀p∈ps,Good p):Sv68.count (lp ps) Sv68.isPlace=(ps.map Pc.name).count dD:=ur () (λp q hp hq=>(facts hp hq).place) h
def Zx(h:∀p∈ps,Good p):Sv68.count (lp ps) (λp=>p== .point)=(ps.map Pc.name).count fB:=ur () (λp q hp hq=>(facts hp hq).point) h
def AI(h:∀p∈ps,Good p):Sv68.count (lp ps) (λp=>p== .comma)=(ps.map Pc.name).count gu:=ur () (λp q hp hq=>(facts hp hq).comma) h
def DP(h:∀p∈ps,Good p):Sv68.count (lp ps) (λp=>p== .percent)=(ps.map Pc.name).count gf:=ur () (λp q hp hq=>(facts hp hq).percent) h
def K6(h:∀p∈ps,Good p):((lp ps).filter qh).length=(ps.map Pc.name).count fc:=ur () (λp q hp hq=>(facts hp hq).power) h
def AN(h:∀p∈ps,Good p):(lp ps).all (λp=>p != .comma)= !decide (gu∈ps.map Pc.name):=by
 rw[bC];have c:=AI h;unfold Sv68.count at c;rw[Bool.not_eq_true',decide_eq_false_iff_not,<-qW,<-c,List.length_eq_zero_iff,List.filter_eq_nil_iff,bg];simp
def YS{l:List Sv68.Piece}(hh:l.head? =none\/l.head? =some .point):Sv68.count (l.drop 1) Sv68.isPlace=Sv68.count l Sv68.isPlace/\(l.drop 1).all (λp=>p != .comma)=l.all (λp=>p != .comma):=by
 cases l with
 |nil=>exact⟨rfl,rfl⟩
 |cons q l=>
  rcases hh with e|e
  .cases e
  .obtain rfl:=aH e;exact⟨rfl,rfl⟩
theorem yl{g:Pc->Bool}{x:Str}(hg:∀p,g p= !decide (p.name=x)):∀ps:List Pc,(ps.dropWhile g)=[]\/∃p r,ps.dropWhile g=p::r/\p.name=x
 |[]=>.inl rfl
 |p::ps=>by
  rw[bU]
  by_cases h:p.name=x
  .rw[aa (by rw[hg,h];simp)];exact .inr ⟨p,ps,rfl,h⟩
  .rw[ah (by rw[hg];simpa using h)];exact yl hg ps
def Good.tw{g:Pc->Bool}(h:∀p∈ps,Good p):(∀p∈ps.takeWhile g,Good p)/\∀p∈ps.dropWhile g,Good p:=⟨λp hp=>h p ((aT g).mem hp),λp hp=>h p ((List.dropWhile_suffix g).mem hp)⟩
def num_eq(h:∀p∈ps,Good p)(hx:¬fc∈ps.map Pc.name):let w:=(lp ps).takeWhile λp=>match p with
   | .point=>false
   | .power _=>false
   |_=>true
  (w=lp (ps.takeWhile gj))/\(((lp ps).drop w.length)=lp (ps.dropWhile gj)):=by
 have e:=vQ (f:=λp=>match p with
   | .point=>false
   | .power _=>false
   |_=>true) (g:=λp=>!decide (p.name=fB)&& !decide (p.name=fc)) (λp q hp hq=>by
  have F:=facts hp hq;rw[<-F.point,<-F.power];cases q<;>rfl) (λp hp=>by
  rcases(mW hp).1 with e|e
  .rw[e];decide+kernel
  .rw[e];decide+kernel) h
 have eg:∀l:List Pc,(∀p∈l,p.name≠fc)->l.takeWhile (λp=>!decide (p.name=fB)&& !decide (p.name=fc))=l.takeWhile gj/\l.dropWhile (λp=>!decide (p.name=fB)&& !decide (p.name=fc))=l.dropWhile gj:=λl=>by
  induction l with
  |nil=>intro _;exact⟨rfl,rfl⟩
  |cons p l ih=>
   intro hl;have hp:=hl p aB;have:=ih λq hq=>hl q (aA _ hq);rw[aF,aF,bU,bU,this.1,this.2,ao hp,Bool.not_false,Bool.and_true];exact⟨rfl,rfl⟩
 have dR:∀p∈ps,p.name≠fc:=λp hp e=>hx (by rw[<-e];exact List.mem_map_of_mem hp);obtain⟨g1,g2⟩:=eg ps dR;rw[g1,g2]at e;dsimp only;refine⟨e.1,?_⟩;rw[vU];exact e.2
end
def rK(l:List Sv68.Piece):Prop:=
 Sv68.count l (λp=>p== .point)<=1/\(l.filter qh).length<=1/\Sv68.count l (λp=>p== .percent)<=4/\1<=Sv68.count (Sv68.beforePower l) Sv68.isPlace/\Sv68.count (Sv68.wholePart l) Sv68.isPlace<=24/\Sv68.count (Sv68.tenthsPart l) Sv68.isPlace<=12/\(Sv68.tenthsPart l).all (λp=>p != .comma)=true/\
   ((l.filter qh).length=0\/(1<=Sv68.count (Sv68.wholePart l) Sv68.isPlace/\((Sv68.wholePart l).all λp=>p != .comma)=true/\Sv68.count l (λp=>p== .percent)=0/\1<=(Sv68.behindPower l).length/\(Sv68.behindPower l).length<=3/\((Sv68.behindPower l).all λp=>p== .place 48)=true))/\Sv68.count (Sv68.wholePart l) (λp=>p== .comma)<=8
section
variable {ps:List Pc}
def Eg(a b:List Pc):lp (a++b)=lp a++lp b:=bV
def N8(h:∀p∈ps,Good p):(lp ps).length=(ps.filter nu).length/\(lp ps).all (λq=>q== .place 48)=(ps.filter nu).all isZero:=by
 induction ps with
 |nil=>exact⟨rfl,rfl⟩
 |cons p ps ih=>
  have ih:=ih λq hq=>h q (aA _ hq);rw[m8,List.filter_cons];cases ht:fR p with
  |none=>
   rw[(mW ht).2.1];exact ih
  |some q=>
   have F:=facts (h p aB) ht;rw[F.cc,ah rfl];dsimp only;rw[aK,aK,ih.1,bu,bu,ih.2,F.zero];exact⟨rfl,rfl⟩
def an1(h:∀p∈ps,Good p):yx ps=true↔(1<=(lp ps).length/\(lp ps).length<=3/\(lp ps).all (λq=>q== .place 48)=true):=by
 obtain⟨e1,e2⟩:=N8 h;rw[e1,e2];unfold yx;generalize ps.filter nu=l;have hle:=List.length_filter_le isZero l;have heq:(l.filter isZero).length=l.length↔l.all isZero=true:=by
  rw[List.length_filter_eq_length_iff,bg]
 rw[aE,aE,aq,aq,aq,heq];constructor
 .rintro⟨a,b,c⟩;have:=heq.mpr c;exact⟨(),(),c⟩
 .rintro⟨a,b,c⟩;have:=heq.mpr c;exact⟨(),(),c⟩
def Au(h:∀p∈ps,Good p)(hz:(lp ps).all (λq=>q== .place 48)=true){x:Str}(hx:x≠dD/\x≠gr/\x≠gq):(ps.map Pc.name).count x=0:=by
 rw[qW];intro hm;obtain⟨p,hp,e⟩:=bJ.mp hm;rw[(N8 h).2,bg]at hz;cases ht:fR p with
 |none=>
  rcases(mW ht).1 with z|z
  .exact hx.2.1 (e.symm.trans z)
  .exact hx.2.2 (e.symm.trans z)
 |some q=>
  have F:=facts (h p hp) ht;have:=hz p (bS.mpr ⟨hp,F.cc⟩);exact hx.1 (e.symm.trans (Kr this))
def before_eq(h:∀p∈ps,Good p):Sv68.beforePower (lp ps)=lp (ps.takeWhile fj)/\(lp ps).drop (Sv68.beforePower (lp ps)).length=lp (ps.dropWhile fj):=by
 have e:=vQ (f:=λp=>match p with
   | .power _=>false
   |_=>true) (g:=fj) (λp q hp hq=>by
  have F:=facts hp hq;unfold fj;rw[<-F.power];cases q<;>rfl) (λp hp=>by
  unfold fj;rcases(mW hp).1 with e|e
  .rw[e];decide+kernel
  .rw[e];decide+kernel) h
 refine⟨e.1,?_⟩;show(lp ps).drop ((lp ps).takeWhile _).length=_;rw[vU];exact e.2
theorem Ep{f:Sv68.Piece->Bool}{q:Sv68.Piece}{Y:List Sv68.Piece}(hq:f q=false):∀X:List Sv68.Piece,(X++q::Y).takeWhile f=X.takeWhile f
 |[]=>by rw[cD,aF,hq];rfl
 |a::X=>by
  rw[bK,aF,aF];split
  .rw[Ep hq X]
  .rfl
def FJ(h:∀p∈ps,Good p):rK (lp ps)↔qZ ps=true:=by
 obtain⟨b1,b2⟩:=before_eq h;have jG:=(Good.tw (g:=fj) h).1;have qM:=(Good.tw (g:=fj) h).2;have eA:yC (ps.map Pc.name)=(ps.takeWhile fj).map Pc.name:=(rz (x:=fc) ps).1;have aB5:=bO (p:=fj) (l:=ps);have hnA:¬fc∈(ps.takeWhile fj).map Pc.name:=λhm=>by
  obtain⟨p,hp,e⟩:=bJ.mp hm;have:fj p=true:=by
   have gen:∀l:List Pc,p∈l.takeWhile fj->fj p=true:=λl=>by
    induction l with
    |nil=>intro h;cases h
    |cons a l ih=>
     intro h;rw[aF]at h;split at h
     .rename_i ha;rcases aN.mp h with e|h
      .rw[e];exact ha
      .exact ih h
     .cases h
   exact gen ps hp
  unfold fj at this;rw[e]at this;simp at this
 generalize hA:ps.takeWhile fj=A at*;generalize hX:ps.dropWhile fj=X at*;obtain⟨n1,n2⟩:=num_eq jG hnA;have qu:ps=A++X:=aB5.symm;have hd:=yl (g:=fj) (x:=fc) (λ_=>rfl) ps;rw[hX]at hd;have hw:Sv68.wholePart (lp ps)=lp (A.takeWhile gj):=by
  unfold Sv68.wholePart;rw[qu,Eg];rcases hd with e|⟨x,R,e,ex⟩
  .rw[e];show(lp A++[]).takeWhile _=_;rw[aU];exact n1
  .rw[e,m8];have xq:=qM x (by rw[e];exact aB);cases ht:fR x with
   |none=>
    rcases(mW ht).1 with z|z
    .exact cJ (ex.symm.trans z) ()
    .exact cJ (ex.symm.trans z) ()
   |some q=>
    have F:=facts xq ht;have HE:qh q=true:=by rw[F.power,ak ex]
    dsimp only;rw[Ep (by cases q<;>first |rfl|cases HE)];exact n1
 have htn:Sv68.tenthsPart (lp ps)=(lp (A.dropWhile gj)).drop 1:=by
  unfold Sv68.tenthsPart;rw[b1,hw];rw[n1]at n2;rw[n2]
 have jX:=(Good.tw (g:=gj) jG).1;have HR:=(Good.tw (g:=gj) jG).2;have aH9:(lp (A.dropWhile gj)).head? =none\/(lp (A.dropWhile gj)).head? =some .point:=by
  rcases yl (g:=gj) (x:=fB) (λ_=>rfl) A with e|⟨x,R,e,ex⟩
  .rw[e];exact .inl rfl
  .rw[e,m8];have xq:=HR x (by rw[e];exact aB);cases ht:fR x with
   |none=>
    rcases(mW ht).1 with z|z
    .exact cJ (ex.symm.trans z) ()
    .exact cJ (ex.symm.trans z) ()
   |some q=>
    have F:=facts xq ht;have:(q==Sv68.Piece.point)=true:=by rw[F.point,ak ex]
    rw[beq_iff_eq]at this;rw[this];exact .inr rfl
 obtain⟨t1,t2⟩:=YS aH9;have m1:ig (A.map Pc.name)=(A.takeWhile gj).map Pc.name:=(rz (x:=fB) A).1;have m2:(A.map Pc.name).drop (ig (A.map Pc.name)).length=(A.dropWhile gj).map Pc.name:=by
  unfold ig;rw[vU];exact(rz (x:=fB) A).2
 have RG:isNum (A.map Pc.name)=true↔(dD∈A.map Pc.name/\(A.map Pc.name).count fB<=1/\(A.map Pc.name).count gf<=4/\((A.takeWhile gj).map Pc.name).count dD<=24/\((A.takeWhile gj).map Pc.name).count gu<=8/\((A.dropWhile gj).map Pc.name).count dD<=12/\¬gu∈(A.dropWhile gj).map Pc.name):=by
  unfold isNum;rw[m2,m1];simp only[aE,aq,Bool.not_eq_true',decide_eq_false_iff_not]
 have BA:∀x:Str,(ps.map Pc.name).count x=(A.map Pc.name).count x+(X.map Pc.name).count x:=λx=>by
  rw[qu,bf,List.count_append]
 unfold rK qZ;rw[Zx h,K6 h,DP h,b1,hw,htn,t1,t2,vF jG,vF jX,vF HR,AN HR,AN jX,AI jX,eA,AH];have rR:Sv68.behindPower (lp ps)=(lp X).drop 1:=by
  unfold Sv68.behindPower;rw[b2]
 rw[rR];simp only[Bool.not_eq_true',decide_eq_false_iff_not];rcases hd with e|⟨x,R,e,ex⟩
 .
  have Im:A=ps:=by
   rw[qu,e,aU]
  rw[e]at BA;have h0:(ps.map Pc.name).count fc=0:=by
   rw[<-Im,qW];exact hnA
  rw[aa (qW.mp h0),<-Im,RG,Im,h0];constructor
  .rintro⟨a1,a2,a3,a4,a5,a6,a7,a8,a9⟩;exact⟨a4,a1,a3,a5,a9,a6,a7⟩
  .rintro⟨a4,a1,a3,a5,a9,a6,a7⟩;exact⟨a1,(),a3,a4,a5,a6,a7,.inl rfl,a9⟩
 .
  have hmem:fc∈ps.map Pc.name:=by
   rw[qu,e,bf,aX,ex];simp
  rw[ah hmem];have xq:=qM x (by rw[e];exact aB);have tL:∀p∈R,Good p:=λp hp=>qM p (by rw[e];exact aA _ hp);have hR:ps.drop ((A.map Pc.name).length+1)=R:=by
   rw[az]
   conv=>lhs;arg 2;rw[qu,e]
   rw[List.drop_append];simp
  have hlX:(lp X).drop 1=lp R:=by
   rw[e,m8];cases ht:fR x with
   |none=>
    rcases(mW ht).1 with z|z
    .exact cJ (ex.symm.trans z) ()
    .exact cJ (ex.symm.trans z) ()
   |some q=>rfl
  rw[hR,hlX,aE,aE,RG,an1 tL];have aN8:v9 (A.map Pc.name)=true↔(dD∈(A.takeWhile gj).map Pc.name/\¬gu∈(A.takeWhile gj).map Pc.name/\¬gf∈A.map Pc.name):=by
   unfold v9;rw[m1];simp only[aE,aq,Bool.not_eq_true',decide_eq_false_iff_not]
  rw[aN8,AH];have SX:∀y:Str,(X.map Pc.name).count y=(R.map Pc.name).count y+(if fc=y then 1 else 0):=λy=>by
   rw[e,aX,List.count_cons,ex];simp
  have hA0:(A.map Pc.name).count fc=0:=qW.mpr hnA;have c1:=BA fB;have c2:=BA gf;have c3:=BA fc;rw[SX,aa ()]at c1 c2;rw[SX,ah rfl,hA0]at c3;constructor
  .rintro⟨a1,a2,a3,a4,a5,a6,a7,a8,a9⟩;rcases a8 with a8|⟨z1,z2,z3,z4,z5,z6⟩
   .lia
   .exact⟨⟨a4,(),(),a5,a9,a6,a7⟩,⟨z1,z2,qW.mp ()⟩,z4,z5,z6⟩
  .rintro⟨⟨a4,a1,a3,a5,a9,a6,a7⟩,⟨z1,z2,z3⟩,z4,z5,z6⟩;have r1:=Au tL z6 (x:=fB) ();have r2:=Au tL z6 (x:=gf) ();have r3:=Au tL z6 (x:=fc) ();have p0:=qW.mpr z3;exact⟨(),(),(),a4,a5,a6,a7,.inr ⟨z1,z2,(),z4,z5,z6⟩,a9⟩
end
section
variable {ps:List Pc}
def BZ(p:Sv68.Piece):Bool:=match p with
   | .clock c n _=>if c=109 then decide (n<=5)else if c=100\/c=121 then decide (n<=4)else decide (n<=2)
   |_=>true
def al6{p:Pc}{q:Sv68.Piece}(hg:Good p)(h:fR p=some q):BZ q=gS p:=by
 cases p with
 |colour k=>cases h
 |condition z x=>cases h
 |part l n d=>
  obtain rfl:=aH h;have hl:(longest l).isSome=true:=hg.2;show(if l=109 then decide (n<=5)else if l=100\/l=121 then decide (n<=4)else decide (n<=2))=(match longest l with
   |some m=>decide (n<=m)
   |none=>true)
  unfold longest at hl ⊢
  by_cases h1:l=121
  .subst h1;rfl
  by_cases h2:l=109
  .subst h2;rfl
  by_cases h3:l=100
  .subst h3;rfl
  by_cases h4:l=104
  .subst h4;rfl
  by_cases h5:l=115
  .subst h5;rfl
  .rw[aa h1,aa h2,aa h3,aa h4,aa h5]at hl;cases hl
 |sign nm c=>
  obtain rfl:=aH h;rcases Lm hg.1 with⟨_,e⟩|⟨_,e⟩|⟨_,e⟩|⟨_,e⟩|⟨_,e⟩<;>(rw[e];rfl)
 |word nm n=>
  obtain rfl:=aH h;show BZ (if nm=fK then .general else .half (n==3))=true;split<;>rfl
 |text b=>obtain rfl:=aH h;rfl
 |exponent c=>obtain rfl:=aH h;rfl
 |passed l n d=>obtain rfl:=aH h;rfl
def al7(h:∀p∈ps,Good p):(lp ps).all BZ=ps.all gS:=by
 induction ps with
 |nil=>rfl
 |cons p ps ih=>
  have ih:=ih λq hq=>h q (aA _ hq);rw[m8,bu];cases ht:fR p with
  |none=>
   rw[(mW ht).2.2.2,aY];exact ih
  |some q=>
   dsimp only;rw[bu,ih,al6 (h p aB) ht]
def aA1{p:Pc}(h:gS p=false):p.name=iR:=by
 cases p with
 |part l n d=>rfl
 |_=>cases h
def kind_eq(h:∀p∈ps,Good p):Sv68.kindOf (lp ps)=if ps.all gS=true then nD ps else none:=by
 have a0:((lp ps).all isText=true)↔iN ps=[]:=by
  have:=v_ (f:=λ_=>false) (g:=λ_=>false) (λ_ _ _ _=>rfl) h;have e:(lp ps).all isText=(lp ps).all (λq=>isText q||(λ_=>false) q):=by
   congr 1;funext q;rw[Bool.or_false]
  rw[e,this];cases iN ps with
  |nil=>simp
  |cons a l=>simp
 have a3:=v_ (f:=λq=>q== .itself) (g:=λx=>decide (x=gG)) (λp q hp hq=>(facts hp hq).at_) h;have a4:=v_ (f:=λq=>q== .general) (g:=λx=>decide (x=fK)) (λp q hp hq=>(facts hp hq).general) h;have a2:=v_ (f:=isClock) (g:=λx=>decide (x∈qA)) (λp q hp hq=>(facts hp hq).clock) h;have a1:=v_ (f:=isDigits) (g:=λx=>decide (x∈oU)) (λp q hp hq=>(facts hp hq).digits) h;have cg:Sv68.count (lp ps) (λp=>p== .general)=(iN ps).count fK:=by
  have:Sv68.count (lp ps) (λp=>p== .general)=(ps.map Pc.name).count fK:=ur () (λp q hp hq=>(facts hp hq).general) h;rw[this];unfold iN;rw[List.count_filter ()]
 have bad:ps.all gS=false->iR∈iN ps:=λhb=>by
  obtain⟨p,hp,e⟩:∃p,p∈ps/\gS p=false:=by
   rw[List.all_eq_false]at hb;obtain⟨p,hp,e⟩:=hb;exact⟨p,hp,by simpa using e⟩
  unfold iN;rw[bS];refine⟨?_,()⟩;rw[<-aA1 e];exact List.mem_map_of_mem hp
 have lim:=al7 h;have dg:=FJ h;unfold Sv68.kindOf nD;generalize hk:iN ps=ks at*
 by_cases h0:ks=[]
 .rw[ah (a0.mpr h0),ah h0];cases hb:ps.all gS with
  |true=>rfl
  |false=>
   have:=bad hb;rw[h0]at this;cases this
 rw[aa (λz=>h0 (a0.mp z)),a3];have Ed:∀g:Str->Bool,g iR=false->iR∈ks->ks.all g=true->False:=λg hg hm ha=>by
  have:=bg.mp ha iR hm;rw[hg]at this;cases this
 have Cz:∀g g':Str->Bool,(∀x,g x=true->g' x=false)->ks.all g=true->ks.all g'=false:=λg g' hgg ha=>by
  cases ks with
  |nil=>exact(h0 rfl).elim
  |cons x l=>
   rw[bu,aE]at ha;rw[bu,hgg x ha.1];rfl
 by_cases h3:ks.all (λx=>decide (x=gG))=true
 .rw[ah h3];have nb:ps.all gS=true:=by
   cases hb:ps.all gS with
   |true=>rfl
   |false=>exact(Ed _ () (bad hb) h3).elim
  have ng:ks≠[fK]:=λe=>by
   rw[e]at h3;revert h3;decide+kernel
  rw[nb,ah rfl,aa h0,aa ng,ah h3]
 rw[aa h3,a4]
 by_cases h4:ks.all (λx=>decide (x=fK))=true
 .rw[ah h4,cg];have nb:ps.all gS=true:=by
   cases hb:ps.all gS with
   |true=>rfl
   |false=>exact(Ed _ () (bad hb) h4).elim
  rw[nb,ah rfl,aa h0];have hc:ks.count fK=ks.length:=List.count_eq_length.mpr λx hx=>by
   have:=bg.mp h4 x hx;exact(aj this).symm
  have RB:ks.count fK=1↔ks=[fK]:=by
   rw[hc];constructor
   .intro z;obtain⟨x,e⟩:=List.length_eq_one_iff.mp z;rw[e]at h4 ⊢;simp at h4;rw[h4]
   .intro z;rw[z];rfl
  by_cases h5:ks=[fK]
  .rw[ah (RB.mpr h5),ah h5]
  .have hd:=Cz (λx=>decide (x=fK)) (λx=>decide (x∈qA)) (λx hx=>by rw[aj hx];decide+kernel) h4;have hd5:=Cz (λx=>decide (x=fK)) (λx=>decide (x∈oU)) (λx hx=>by rw[aj hx];decide+kernel) h4;rw[aa (λz=>h5 (RB.mp z)),aa h5,aa h3,aa (by rw[hd];decide),aa (by rw[hd5];simp)]
 rw[aa h4,a2];have ng:ks≠[fK]:=λe=>h4 (by rw[e];decide+kernel)
 by_cases h2:ks.all (λx=>decide (x∈qA))=true
 .rw[ah h2];show(if(lp ps).all BZ=true then some 2 else none)=_;rw[lim];cases hb:ps.all gS with
  |true=>rw[ah rfl,ah rfl,aa h0,aa ng,aa h3,ah h2]
  |false=>rfl
 rw[aa h2,a1]
 by_cases h1:ks.all (λx=>decide (x∈oU))=true
 .rw[ah h1];have nb:ps.all gS=true:=by
   cases hb:ps.all gS with
   |true=>rfl
   |false=>exact(Ed _ () (bad hb) h1).elim
  rw[nb,ah rfl,aa h0,aa ng,aa h3,aa h2]
  by_cases hd:qZ ps=true
  .rw[ah (show ks.all (λx=>decide (x∈oU))=true/\qZ ps=true from⟨h1,hd⟩)];exact ah (dg.mpr hd)
  .rw[aa (show¬(ks.all (λx=>decide (x∈oU))=true/\qZ ps=true)from λz=>hd z.2)];exact aa λz=>hd (dg.mp z)
 .rw[aa h1];cases hb:ps.all gS with
  |true=>rw[ah rfl,aa h0,aa ng,aa h3,aa h2,aa λz=>h1 z.1]
  |false=>rfl
end
structure SR(c:eZ)(s:Section):Prop where
 colour:s.colour=c.colour
 kind:Sv68.kindOf s.pieces=some c.kind
 cond:s.condition=c.cond.map λx=>(pF x.1,x.2)
 pieces:s.pieces=lp c.ps
def Om{ps:List Pc}(h:∀p∈ps,Good p):jR ⟨0,none,[]⟩ ps=if 1<(ps.filterMap g9).length\/1<(ps.filterMap jN).length then none else some ⟨(ps.filterMap g9).sum,(ps.filterMap jN).head?.map λx=>(pF x.1,x.2),lp ps⟩:=by
 rw[M0 ps _ h]
 by_cases hc:1<(ps.filterMap g9).length\/1<(ps.filterMap jN).length
 .rw[ah hc,aa];simp;lia
 .rw[aa hc,ah]
  .simp
  .simp;lia
def aL8{ps:List Pc}{c:eZ}(h:∀p∈ps,Good p)(hr:ps.all gS=true)(hm:nB ps=some c):∃s,jR ⟨0,none,[]⟩ ps=some s/\SR c s:=by
 unfold nB at hm;rw[Om h];split at hm
 .cases hm
 .rename_i hn;obtain⟨k,hk,e⟩:=aG.mp hm;rw[aa hn];refine⟨_,rfl,?_⟩;subst e;refine⟨rfl,?_,rfl,rfl⟩;rw[kind_eq h,hr,ah rfl,hk]
def aL7{ps:List Pc}{s:Section}{k:Nat}(h:∀p∈ps,Good p)(hm:jR ⟨0,none,[]⟩ ps=some s)(hk:Sv68.kindOf s.pieces=some k):ps.all gS=true/\∃c,nB ps=some c/\SR c s:=by
 rw[Om h]at hm;split at hm
 .cases hm
 .rename_i hn;have e:=aH hm;have hp:s.pieces=lp ps:=by rw[<-e]
  rw[hp,kind_eq h]at hk;split at hk
  .rename_i hr;refine⟨hr,⟨(ps.filterMap g9).sum,k,(ps.filterMap jN).head?,ps⟩,?_,?_⟩
   .unfold nB;rw[aa hn,hk];rfl
   .refine⟨by rw[<-e],?_,by rw[<-e],hp⟩;rw[hp,kind_eq h,hr,ah rfl];exact hk
  .cases hk
theorem all1:∀{ls:List (List Pc)} {cs:List eZ},(∀ps∈ls,∀p∈ps,Good p)->ls.all (λps=>ps.all gS)=true->lG ls=some cs->∃l,rD ls=some l/\A2 SR cs l
 |[],cs,_,_,h=>by
  have e:[]=cs:=aH h;subst e;exact⟨[],rfl,.nil⟩
 |x::r,cs,hg,hr,h=>by
  rw[bu,aE]at hr;obtain⟨c,hc,h⟩:=aO.mp h;obtain⟨z9,h_,e⟩:=aG.mp h;obtain⟨s,hs,hS⟩:=aL8 (hg x aB) hr.1 hc;obtain⟨l,hl,hA⟩:=all1 (λps hps=>hg ps (aA _ hps)) hr.2 h_;subst e;exact⟨s::l,by rw[rD,hs,Option.bind_some,hl];rfl,.cons hS hA⟩
theorem all2:∀{ls:List (List Pc)} {l:Picture},(∀ps∈ls,∀p∈ps,Good p)->rD ls=some l->(l.map λs=>Sv68.kindOf s.pieces).all Option.isSome=true->ls.all (λps=>ps.all gS)=true/\∃cs,lG ls=some cs/\A2 SR cs l
 |[],l,_,h,_=>by
  have e:[]=l:=aH h;subst e;exact⟨rfl,[],rfl,.nil⟩
 |x::r,l,hg,h,hk=>by
  obtain⟨s,hs,h⟩:=aO.mp h;obtain⟨l',hl,e⟩:=aG.mp h;subst e;rw[aX,bu,aE]at hk;obtain⟨k,hk1⟩:=Option.isSome_iff_exists.mp hk.1;obtain⟨hr,c,hc,hS⟩:=aL7 (hg x aB) hs hk1;obtain⟨pH,cs,h_,hA⟩:=all2 (λps hps=>hg ps (aA _ hps)) hl hk.2;exact⟨by rw[bu,hr,pH];rfl,c::cs,by rw[lG,hc,Option.bind_some,h_];rfl,.cons hS hA⟩
noncomputable def zc(l:Picture):Bool:=let ks:=l.map λs=>Sv68.kindOf s.pieces
 (ks.all Option.isSome&&((ks.dropLast.all λk=>k != some 3)&&((l.drop 2).all (λs=>s.condition.isNone)&&(decide (l.length<4)||(ks.getLast?.join==some 0||ks.getLast?.join==some 3)))))
def ZZ{cs:List eZ}{l:Picture}(h:A2 SR cs l):(l.map λs=>Sv68.kindOf s.pieces)=cs.map λc=>some c.kind:=by
 induction h with
 |nil=>rfl
 |cons r t ih=>rw[aX,aX,ih,r.kind]
def Z0{cs:List eZ}{l:Picture}(h:A2 SR cs l):(l.all λs=>s.condition.isNone)= !cs.any λc=>c.cond.isSome:=by
 induction h with
 |nil=>rfl
 |@cons c s cs l r t ih=>
  rw[bu,List.any_cons,ih,r.cond,Bool.not_or];congr 1;cases c.cond<;>rfl
def M9{cs:List eZ}{l:Picture}(h:A2 SR cs l)(hl:cs.length<=4):zc l=pC cs:=by
 unfold zc pC;dsimp only;rw[ZZ h,ak hl,aY];have h1:(cs.map λc=>some c.kind).all Option.isSome=true:=by
  rw[List.all_map];exact bg.mpr λ_ _=>rfl
 have h2:(cs.map λc=>some c.kind).dropLast.all (λk=>k != some 3)= !cs.dropLast.any (λc=>decide (c.kind=3)):=by
  rw[<-List.map_dropLast,List.all_map];generalize cs.dropLast=d
  induction d with
  |nil=>rfl
  |cons c d ih=>
   rw[bu,List.any_cons,Bool.not_or,ih];congr 1
 rw[h1,aY,h2,Z0 (A2.Gi h 2),<-h.length];congr 2
 by_cases h4:cs.length<4
 .rw[ak h4];rfl
 .rw[ao h4,Bool.false_or,Bool.false_or]
  match cs,hl,h4 with
  |[a,b,c,d],_,_=>
   show(some d.kind==some 0||some d.kind==some 3)=(decide (d.kind=0)||decide (d.kind=3));rw[bC];simp
  |[],_,h4=>exact cJ () h4
  |[a],_,h4=>exact cJ (by simp) h4
  |[a,b],_,h4=>exact cJ (by simp) h4
  |[a,b,c],_,h4=>exact cJ (by simp) h4
  |a::b::c::d::e::r,hl,_=>exact cJ hl (by simp)
theorem A7:∀{ls:List (List Pc)} {cs:List eZ},lG ls=some cs->cs.length=ls.length
 |[],cs,h=>by
  have e:[]=cs:=aH h;subst e;rfl
 |x::r,cs,h=>by
  obtain⟨c,hc,h⟩:=aO.mp h;obtain⟨z9,h_,e⟩:=aG.mp h;subst e;rw[aK,aK,A7 h_]
def Wv(b:cS):pictureOf b=if 255<b.length\/Wbk.utf8 b=false then none else(Sv68.sections 4 b).bind λl=>if zc l=true then some l else none:=rfl
def NR(b:cS):(∀cs,iy b=some cs->∃l,pictureOf b=some l/\A2 SR cs l)/\(iy b=none->pictureOf b=none):=by
 rw[Wv];unfold iy
 by_cases h0:255<b.length\/Wbk.utf8 b=false
 .rw[ah h0,ah h0];exact⟨λcs h=>(by cases h),λ_=>rfl⟩
 rw[aa h0,aa h0];have hu:Wbk.utf8 b=true:=by
  cases hh:Wbk.utf8 b with
  |true=>rfl
  |false=>exact(h0 (.inr hh)).elim
 have hs:=JP (b:=b) 4 0 (aP _) hu;rw[List.drop_zero,Nat.sub_zero]at hs;rw[hs,Bc];cases hl:gW b (b.length+1) 0 with
 |none=>exact⟨λcs h=>(by cases h),λ_=>rfl⟩
 |some ls=>
  have hg:=AV hl;rw[Option.bind_some,Option.bind_some];constructor
  .intro cs h;split at h
   .rename_i hr;rw[Option.bind_some]at h;obtain⟨z9,hc,h⟩:=aO.mp h;split at h
    .rename_i ht;obtain rfl:=aH h;obtain⟨l,hm,hA⟩:=all1 hg hr hc;have hlen:=A7 hc;have h4:z9.length<=4:=by
      unfold pC at ht;rw[aE]at ht;exact aj ht.1
     refine⟨l,?_,hA⟩;rw[ah (),hm,Option.bind_some,ah (by rw[M9 hA h4];exact ht)]
    .cases h
   .cases h
  .intro h
   by_cases h4:ls.length<=4
   .rw[ah h4];cases hm:rD ls with
    |none=>rfl
    |some l=>
     rw[Option.bind_some]
     by_cases hp:zc l=true
     .have hk:(l.map λs=>Sv68.kindOf s.pieces).all Option.isSome=true:=by
       unfold zc at hp;rw[aE]at hp;exact hp.1
      obtain⟨hr,cs,hc,hA⟩:=all2 hg hm hk;have hlen:=A7 hc;rw[ah hr,Option.bind_some,hc,Option.bind_some,<-M9 hA (),ah hp]at h;cases h
     .rw[aa hp]
   .rw[aa h4];rfl
open Sv68 (yearStart monthStart monthDays dayOf dateOf LASTDAY leap)
def BN(y:Int):Bool:=decide (y%4=0)&&(!decide (y%100=0)||decide (y%400=0))
def KU(y:Nat):BN (y:Int)=leap y:=by
 rw[bC,DY.LD];unfold BN;simp;lia
def yI(y:Int):Int:=365*(y-1900)+((y-1)/4-(y-1)/100+(y-1)/400)-460
def M4{y:Nat}(h:1900<=y):yI (y:Int)=(yearStart y:Int):=by
 unfold yI yearStart;lia
def Vd:yearStart 10000=LASTDAY:=()
section
noncomputable def Qw:List Int:=[31,28,31,30,31,30,31,31,30,31,30,31]
inductive Nm(vs:List V)(H:Hp)(Q:VK)(z3:XK):Prop|m(y:Int)(_:vs=[.int y])(_:Q (.bl (BN y)) H)
inductive Nk(vs:List V)(H:Hp)(Q:VK)(z3:XK):Prop|m(y:Int)(m:Nat)(_:vs=[.int y,.int m])(_:0<=y)(_:1<=m)(_:m<=12)(_:Q (.int (monthDays y.toNat m)) H)
inductive ON(vs:List V)(H:Hp)(Q:VK)(z3:XK):Prop|m(y:Int)(_:vs=[.int y])(_:Q (.int ((y-1)/4-(y-1)/100+(y-1)/400)) H)
inductive Mh(vs:List V)(H:Hp)(Q:VK)(z3:XK):Prop|m(y:Int)(_:vs=[.int y])(_:Q (.int (yI y+1)) H)
abbrev P6:Stmt:=top 8
abbrev P4:Stmt:=top 9
abbrev Q3:Stmt:=top 10
abbrev NL:Stmt:=top 11
def at0:dP ["year"] ["year"] (c9 P6):=dW
def ak0(F:dM K "is_leap_year" "is_leap_year" P6 f fd):dJ P w K mg base cY 1 f fd ["year"] Nm:=by
 refine F.oK at0 λc8 A outer s H vs Q E hr h=>?_;obtain⟨y,rfl,k⟩:=h;refine⟨_,(cX (dh (mC (fQ dU (dm kO (pv 0) cZ) cZ) (kh (yG (fQ wu (dm kO (pv 0) cZ) cZ) (kh (fQ dU (dm kO (pv 0) cZ) cZ))))))),?_⟩;unfold BN at k;refine⟨_,_,rfl,rfl,(by show(0:Int)<_;decide),rfl,_,rfl,dw (λq=>?_) (λq=>?_)⟩
 .have q1:y%4=0:=by simpa using q
  refine⟨_,_,rfl,rfl,(by show(0:Int)<_;decide),rfl,_,rfl,dw (λq=>?_) (λq=>?_)⟩
  .have q2:¬y%100=0:=by simpa using q
   simpa[q1,q2] using k
  .have q2:y%100=0:=by simpa using q
   refine⟨_,_,rfl,rfl,(by show(0:Int)<_;decide),rfl,?_⟩;simpa[q1,q2] using k
 .have q1:¬y%4=0:=by simpa using q
  simpa[q1] using k
def as9:dP ["year","month"] ["year","month"] (c9 P4):=dW
def ac9:∀{m:Nat},1<=m->m<=12->∃z:Int,Qw[m-1]? =some z/\∀y:Nat,¬(m=2/\leap y=true)->z=(monthDays y m:Int)
 |1,_,_=>⟨_,rfl,λy _=>rfl⟩
 |2,_,_=>⟨_,rfl,λy h=>by unfold monthDays;rw[ah rfl,aa λz=>h ⟨rfl,z⟩];rfl⟩
 |3,_,_=>⟨_,rfl,λy _=>rfl⟩
 |4,_,_=>⟨_,rfl,λy _=>rfl⟩
 |5,_,_=>⟨_,rfl,λy _=>rfl⟩
 |6,_,_=>⟨_,rfl,λy _=>rfl⟩
 |7,_,_=>⟨_,rfl,λy _=>rfl⟩
 |8,_,_=>⟨_,rfl,λy _=>rfl⟩
 |9,_,_=>⟨_,rfl,λy _=>rfl⟩
 |10,_,_=>⟨_,rfl,λy _=>rfl⟩
 |11,_,_=>⟨_,rfl,λy _=>rfl⟩
 |12,_,_=>⟨_,rfl,λy _=>rfl⟩
 |m+13,_,h=>()
def aj8(T:TX P w K mg)(aC9:Own P w K mg base cY 1 "is_leap_year" ["year"] Nm)(F:dM K "month_length" "month_length" P4 f fd):dJ P w K mg base cY 2 f fd ["year","month"] Nk:=by
 refine F.oK as9 λc8 A outer s H vs Q E hr h=>?_;obtain⟨y,m,rfl,h0,h1,h2,k⟩:=h;obtain⟨aM,gM,sM⟩:=T.Vw;refine⟨_,(cW (dO (PW.pt (nh (dj dU (pv 1) (dG T.Yw)) (m6 (iH (dF aC9 hr (cT (pv 0))))))) (cX (dh cZ)) dX)
  (cX (dh (fM yw (i7 gM) (dm iI (pv 1) cZ) (λ_ _=>rfl))))),?_⟩
 obtain⟨y,rfl⟩:∃y':Nat,y=(y':Int):=⟨y.toNat,()⟩;rw[bZ]at k;obtain⟨z,hz,hm⟩:=ac9 h1 h2;have C6:lY (Qw.map V.int) ((m:Int)-1)=some (V.int z):=at_of (j:=m-1) () (by rw[aR,hz];rfl);refine⟨rfl,_,rfl,dw (λq=>?_) (λq=>?_)⟩
 .have q1:m=2:=by have:=aj q;have e:=V.int.inj this;lia
  refine⟨_,rfl,_,rfl,dw (λq=>?_) (λq=>?_)⟩
  .have q2:leap y=true:=by rw[<-KU];exact q
   have e:monthDays y m=29:=by unfold monthDays;rw[ah q1,ah q2]
   rw[e]at k;exact k
  .have q2:¬leap y=true:=by rw[<-KU];exact q
   refine⟨_,_,rfl,rfl,aM,_,_,_,rfl,rfl,sM _,C6,?_⟩;rw[<-hm y λz=>q2 z.2]at k;exact k
 .have q1:¬m=2:=λe=>q (by subst e;rfl);refine dB ⟨_,_,rfl,rfl,aM,_,_,_,rfl,rfl,sM _,C6,?_⟩;rw[<-hm y λz=>q1 z.1]at k;exact k
def Po:dP ["year","last"] ["year"] (c9 Q3):=dW
def ax4(F:dM K "leap_years_before" "leap_years_before" Q3 f fd):dJ P w K mg base cY 1 f fd ["year"] ON:=by
 refine F.oK Po λc8 A outer s H vs Q E hr h=>?_;obtain⟨y,rfl,k⟩:=h;have nd:=Po.nd;refine⟨_,(cW (dN (i:=1) nd (dm iI (pv 0) cZ))
  (cX (dh (dm fL (dm iI (dm mw (pv 1) cZ) (dm mw (pv 1) cZ)) (dm mw (pv 1) cZ))))),?_⟩
 exact⟨_,_,rfl,rfl,_,_,rfl,rfl,⟨(),()⟩,_,_,rfl,rfl,⟨(),()⟩,_,_,rfl,rfl,_,_,rfl,rfl,⟨(),()⟩,_,_,rfl,rfl,k⟩
def Mq:dP ["year","leap_days"] ["year"] (c9 NL):=dW
def ab6(T:TX P w K mg)(Qv:Own P w K mg base cY 1 "leap_years_before" ["year"] ON)(F:dM K "first_day" "first_day" NL f fd):dJ P w K mg base cY 2 f fd ["year"] Mh:=by
 refine F.oK Mq λc8 A outer s H vs Q E hr h=>?_;obtain⟨y,rfl,k⟩:=h;have nd:=Mq.nd;refine⟨_,(cW (dN (i:=1) nd (dm iI (dF Qv hr (cT (pv 0))) (dF Qv hr (cT (dG T.DH)))))
  (cX (dh (dm fL (dm fL cZ (dm ki cZ (dm iI (pv 0) (dG T.DH)))) (pv 1))))),?_⟩
 refine⟨_,rfl,_,rfl,_,_,rfl,rfl,_,_,rfl,rfl,_,_,rfl,rfl,.inl (),_,_,rfl,rfl,_,_,rfl,rfl,?_⟩;have e:yI y+1=1+365*(y-1900)+((y-1)/4-(y-1)/100+(y-1)/400-((1900-1:Int)/4-(1900-1)/100+(1900-1)/400)):=by
  unfold yI;lia
 rw[e]at k;exact k
end
def tY(y m d:V):List (Str×V):=eG "day" d (eG "month" m (eG "year" y []))
def ad8{y m d:V}:(tY y m d).lookup ("year":Str)=some y:=by
 unfold tY;rw[eO,aa (),eO,aa (),eO,ah rfl]
def KZ{y m d:V}:(tY y m d).lookup ("month":Str)=some m:=by
 unfold tY;rw[eO,aa (),eO,ah rfl]
def an8{y m d:V}:(tY y m d).lookup ("day":Str)=some d:=by
 unfold tY;rw[eO,ah rfl]
section
structure FY(K:b6)(C:Addr):Prop where
 cl:lq K C
 N4:gz K C "year"
 EZ:gz K C "month"
 Ql:gz K C "day"
abbrev aq4(K:b6)(C:Addr):Prop:=FY K C
abbrev NN:Stmt:=inClass (top 7) 0
inductive Mi(C:Addr)(vs:List V)(H:Hp)(Q:VK)(z3:XK):Prop|m(p dx:Addr)(y m d:V)(_:vs=[.ref p,y,m,d])(_:H p=some (.ins C dx []))(_:Q .dI (upd H p (.ins C dx (tY y m d))))
def ah5:dP ["self","year","month","day"] ["self","year","month","day"] (c9 NN):=dW
def ab7{f C:Addr}(T:FY K C)(F:dM K "__init__" "Date.__init__" NN f fd):dJ P w K mg base cY 1 f fd ["self","year","month","day"] (Mi C):=by
 refine F.oK ah5 λc8 A outer s H vs Q E hr h=>?_;obtain⟨p,dx,y,m,d,rfl,hp,k⟩:=h;refine⟨_,(cW (iC (pv 0) (pv 1) rfl) (cW (iC (pv 0) (pv 2) rfl) (cX (iC (pv 0) (pv 3) rfl)))),?_⟩;refine⟨p,C,dx,[],rfl,hp,T.cl,T.N4,(by show 0<1000;decide),?_⟩;refine⟨p,C,dx,_,rfl,cV,T.cl,T.EZ,(by show 1<1000;decide),?_⟩;refine⟨p,C,dx,_,rfl,cV,T.cl,T.Ql,(by show 2<1000;decide),?_⟩;rw[jd,jd];exact k
abbrev Bb:Stmt:=top 12
def aD3(C:Addr)(H:Hp)(a:Addr)(x:Nat×Nat×Nat):Prop:=∃dx,H a=some (.ins C dx (tY (.int x.1) (.int x.2.1) (.int x.2.2)))
inductive Ll(C:Addr)(vs:List V)(H:Hp)(Q:VK)(z3:XK):Prop|m(n:Nat)(_:vs=[.int n])(_:n<=LASTDAY)(_:∀(a:Addr) (H':Hp),cR H H'->aD3 C H' a (dateOf n)->Q (.ref a) H')
def Lr:dP ["number","year","day","month"] ["number"] (c9 Bb):=dW
def ad9{n y m d:Nat}(hn:n<=LASTDAY)(hy:1900<=y)(hlo:(n=0/\y=1900)\/yearStart y<n)(hm:1<=m)(pO:m<=12)(e:yearStart y+(monthStart y m+d)=n)(hd:(n=0/\d=0)\/1<=d)(hl:d<=monthDays y m):dateOf n=(y,m,d):=by
 rcases hlo with⟨rfl,rfl⟩|hlo
 .have tN:d=0:=by rcases hd with⟨_,h⟩|h<;>lia
  have m1:m=1:=by
   have:=DY.xU (y:=1900) (m:=1) () (m-1);rw[show 1+(m-1)=m by lia]at this;lia
  subst tN m1;rfl
 .have kI:1<=d:=by rcases hd with⟨h,_⟩|h<;>lia
  have hy9:y<=9999:=by
   by_cases h:y<=9999
   .exact h
   .have:=DY.Aj (y:=10000) () (y-10000);rw[show 10000+(y-10000)=y by lia,Vd]at this;lia
  exact DY.K4 ⟨hy,hy9,hm,pO,kI,hl⟩ (by unfold dayOf;lia)
def YE{n:Nat}(hn:n<=LASTDAY):((n=0/\1900+n*4/1461=1900)\/yearStart (1900+n*4/1461)<n)/\n<=yearStart (1900+n*4/1461+1+1):=by
 have hL:n<=2958464:=hn;have h1:n*4/1461<=8099:=();have h2:1461*(n*4/1461)<=n*4:=();have h3:n*4<1461*(n*4/1461)+1461:=();generalize n*4/1461=k at*;unfold yearStart;constructor
 .by_cases z:n=0
  .left
   lia
  .right
   have e1:(1900+k-1)/400=(1900+k-1)/100/4:=()
   by_cases k0:k=0
   .subst k0;lia
   have e2:19<=(1900+k-1)/100:=();have e4:(1900+k-1)/100<=(1900+k-1)/4:=();rw[e1];generalize (1900+k-1)/100=f at*;have e3:15<=f-f/4:=();lia
 .lia
def YZ{f C:Addr}(T:TX P w K mg)(J0:Own P w K mg base cY 2 "first_day" ["year"] Mh)(Jl:Own P w K mg base cY 2 "month_length" ["year","month"] Nk)
  (aD2:jD P w K mg base cY 1 C "Date" ["self","year","month","day"] (Mi C))(F:dM K "date_of" "date_of" Bb f fd):dJ P w K mg base cY 3 f fd ["number"] (Ll C):=by
 refine F.oK Lr λc8 A outer s H vs Q E hr h=>?_;obtain⟨n,rfl,hn,k⟩:=h;have nd:=Lr.nd;obtain⟨tR,hR,qR⟩:∃tR,gb (gJ cY P w K mg base ["number","year","day","month"] "date_of" (c9 Bb) f c8 A outer s H E).jV ((gH Bb).drop 2) tR/\
   (∀y:Nat,1900<=y->((n=0/\y=1900)\/yearStart y<n)->n<=yearStart (y+1)->tR {nx:=λ_ H'=>Q .dI H',rt:=Q} [some (.int n),some (.int y),none,none] H):=by
  refine⟨_,(cW (dN (i:=2) nd (dm fL (dm iI (pv 0) (dF J0 hr (cT (pv 1)))) cZ))
  (cW (dN (i:=3) nd cZ)
  (cW (r_ cA (dj iV (pv 2) (dF Jl hr (c_ (pv 1) (cT (pv 3))))) (cW (mz (i:=2) nd rfl (Or.inl rfl) (dF Jl hr (c_ (pv 1) (cT (pv 3)))) Ob)
  (cX (mz (i:=3) nd rfl (Or.inl rfl) cZ qm))))
  (cX (dh (iQ aD2 hr (c_ (pv 1) (c_ (pv 3) (cT (pv 2)))))))))),λy hy hlo q1=>?_⟩
  have ys:=DY.Ah hy;have aN7:=DY.Dy y;have ey0:yI (y:Int)=(yearStart y:Int):=M4 hy;have r0:(n=0/\yearStart y=0)\/yearStart y<n:=by
   rcases hlo with⟨a,b⟩|b
   .exact .inl ⟨a,by rw[b];exact DY.JM⟩
   .exact .inr b
  refine⟨_,rfl,_,_,rfl,rfl,_,_,rfl,rfl,?_⟩;have er:(n:Int)-(yI (y:Int)+1)+1=((n-yearStart y:Nat):Int):=();refine⟨λm σ H2=>∃mo d:Nat,σ=[some (.int n),some (.int y),some (.int d),some (.int mo)]/\H=H2/\1<=mo/\mo<=12/\yearStart y+(monthStart y mo+d)=n/\((n=0/\d=0)\/1<=d)/\m=12-mo,
   ⟨_,1,n-yearStart y,cI (λz=>[some (V.int (n:Int)),some (V.int (y:Int)),some (V.int z),some (V.int 1)]) er,rfl,(),(),by rw[DY.JD];lia,(),rfl⟩,?_⟩
  rintro m σ H2 ⟨mo,d,rfl,rfl,zK,pO,e,hd,rfl⟩;have ms:=DY.xS (y:=y) zK;have ep:((y:Int)).toNat=y:=bZ y;refine⟨_,mo,rfl,(),zK,pO,_,_,rfl,rfl,_,rfl,dw (λq=>?_) (λq=>?_)⟩
  .have q1:monthDays y mo<d:=by
    have:(((monthDays ((y:Int)).toNat mo:Nat):Int))<(d:Int):=aj q;rw[ep]at this;lia
   have hmo:mo<12:=by
    rcases Nat.lt_or_ge mo 12 with h|h
    .exact h
    .have e12:mo=12:=();subst e12;rw[aN7]at ms;lia
   refine⟨_,λσ' H' z=>z,_,rfl,_,mo,rfl,(),zK,pO,_,_,rfl,rfl,_,rfl,_,_,rfl,rfl,12-(mo+1),(),mo+1,d-monthDays y mo,?_,rfl,(),(),(),(),rfl⟩;rw[ep];show [some (V.int (n:Int)),some (V.int (y:Int)),some (V.int ((d:Int)-(monthDays y mo:Int))),some (V.int ((mo:Int)+1))]=_;rw[show(d:Int)-(monthDays y mo:Int)=((d-monthDays y mo:Nat):Int) by lia];rfl
  .have q1:d<=monthDays y mo:=by
    have:¬(((monthDays ((y:Int)).toNat mo:Nat):Int))<(d:Int):=λz=>q (ak z);rw[ep]at this;lia
   refine λx dx hx eU dR=>?_;refine⟨x,dx,_,_,_,rfl,cV,rfl,?_⟩;refine k x _ ?_ ⟨dx,by rw[ad9 hn hy hlo zK pO e hd q1,cV]⟩;intro b o hb;rw[eK (fE hb hx),eK (fE hb hx),eK (fE hb eU)];exact hb
 refine⟨_,(cW (dN (i:=1) nd (dm fL (dG T.DH) (dm mw (dm ki (pv 0) cZ) cZ)))
  (cW (dO (dj iJ (dF J0 hr (cT (dm fL (pv 1) cZ))) (pv 0)) (cX (mz (i:=1) nd rfl (Or.inl rfl) cZ qm)) dX)
  hR)),?_⟩
 have e0:(1900:Int)+(n:Int)*4/1461=((1900+n*4/1461:Nat):Int):=();obtain⟨b1,b2⟩:=YE hn;have ey:yI (((1900+n*4/1461:Nat):Int)+1)=(yearStart (1900+n*4/1461+1):Int):=M4 (y:=1900+n*4/1461+1) ();refine⟨_,_,rfl,rfl,.inr (),_,_,rfl,rfl,⟨(),()⟩,_,_,rfl,rfl,_,_,rfl,rfl,_,rfl,_,_,rfl,rfl,_,rfl,dw (λq=>?_) (λq=>?_)⟩
 .have q1:yearStart (1900+n*4/1461+1)<n:=by
   have z:yI ((1900:Int)+(n:Int)*4/1461+1)+1<=(n:Int):=aj q;rw[e0,ey]at z;lia
  have z:=qR (1900+n*4/1461+1) () (.inr q1) b2;rw[show((1900+n*4/1461+1:Nat):Int)=(1900:Int)+(n:Int)*4/1461+1 by lia]at z;exact⟨_,rfl,_,_,rfl,rfl,z⟩
 .have q1:n<=yearStart (1900+n*4/1461+1):=by
   have z:¬yI ((1900:Int)+(n:Int)*4/1461+1)+1<=(n:Int):=λz=>q (ak z);rw[e0,ey]at z;lia
  have z:=qR (1900+n*4/1461) () b1 q1;rw[<-e0]at z;exact z
abbrev PV:Stmt:=top 13
inductive Nc(vs:List V)(H:Hp)(Q:VK)(z3:XK):Prop|m(n:Int)(_:vs=[.int n])(_:Q (.int (n%7)) H)
def as6:dP ["number"] ["number"] (c9 PV):=dW
def ai9(F:dM K "weekday_of" "weekday_of" PV f fd):dJ P w K mg base cY 1 f fd ["number"] Nc:=by
 refine F.oK as6 λc8 A outer s H vs Q E hr h=>?_;obtain⟨n,rfl,k⟩:=h;exact⟨_,cX (dh (dm kO (pv 0) cZ)),_,_,rfl,rfl,(by show(0:Int)<_;decide),k⟩
end
def DV(l:List Char):(Str.ofString (String.ofList l)).cps.toList=l.map Char.toNat:=by
 rw[PySem.W.Fast.ofString_ofList]
def EY(n:Nat):(toString (n:Int):String)=String.ofList (Nat.toDigits 10 n):=by
 show toString n=_;exact Nat.toString_eq_ofList_toDigits
def Kf{n:Nat}{c:Char}(h:c∈Nat.toDigits 10 n):48<=c.toNat/\c.toNat<=57:=by
 have h:=Nat.isDigit_of_mem_toDigits (b:=10) () () h;unfold Char.isDigit at h;simp at h;exact h
def Yz(n:Nat):bi (Sv68.decimal n)=(Nat.toDigits 10 n).map λc=>(c.toNat:Int):=by
 unfold bi Sv68.decimal;rw[bT];refine cC λc hc=>?_;have:=Kf hc;show(((UInt8.ofNat c.toNat).toNat:Nat):Int)=_;rw[UInt8.toNat_ofNat_of_lt' (show c.toNat<256 by lia)]
def str_len(n:Nat):(Str.ofString (toString (n:Int))).length=(Sv68.decimal n).length:=by
 rw[EY];show(Str.ofString (String.ofList (Nat.toDigits 10 n))).cps.size=_;rw[<-bR,DV,az,SH.xY]
def Lc(a b:cS):bi (a++b)=bi a++bi b:=by
 unfold bi;rw[bf]
def JL(n k:Nat):eX (Txt.zfill (Str.ofString (toString (n:Int))) (k:Int))=bi (Sv68.padded k n):=by
 have hs:eX (Str.ofString (toString (n:Int)))=bi (Sv68.decimal n):=by
  unfold eX;rw[EY,DV,Yz,bT];rfl
 have hl:=str_len n;unfold Txt.zfill Sv68.padded;rw[Lc]
 by_cases h:(k:Int)<=((Str.ofString (toString (n:Int))).length:Int)
 .rw[ah h,hs,show k-(Sv68.decimal n).length=0 by lia];rfl
 .rw[aa h,bZ,hl,<-hs];have h0:∀c,(Str.ofString (toString (n:Int))).cps[0]? =some c->c≠43/\c≠45:=λc hc=>by
   have hm:c∈(Str.ofString (toString (n:Int))).cps.toList:=by
    rw[<-Array.getElem?_toList]at hc;exact bx hc
   rw[EY,DV]at hm;obtain⟨d,hd,rfl⟩:=bJ.mp hm;have:=Kf hd;lia
  have hz:zfilled (Str.ofString (toString (n:Int))) (k-(Sv68.decimal n).length)=Builtin.Str.padded (Str.ofString (toString (n:Int))) (k-(Sv68.decimal n).length) 0 48:=by
   unfold zfilled;split
   .rename_i e;exact cJ rfl (h0 _ e).1
   .rename_i e;exact cJ rfl (h0 _ e).2
   .rfl
  rw[hz];unfold eX Builtin.Str.padded bi;simp
def oh(k n:Nat):(Sv68.padded k n).length=max k (Sv68.decimal n).length:=by
 unfold Sv68.padded;rw[aC,List.length_replicate];lia
def j7{n k:Nat}(hk:0<k)(h:n<10^k):(Sv68.decimal n).length<=k:=by
 rw[SH.xY];exact(Nat.length_toDigits_le_iff () hk).mpr h
section
abbrev Rh:Stmt:=top 45
def aF5:dP ["number","least"] ["number","least"] (c9 Rh):=dW
inductive oG(vs:List V)(H:Hp)(Q:VK)(z3:XK):Prop|m(n k:Nat)(_:vs=[.int n,.int k])(_:n<10^90)(_:k<=90)(_:∀p,H p=none->Q (.ref p) (upd H p (.lst (bv (Sv68.padded k n)))))
def Za{n:Nat}(h:n<10^90):((n:Int)).natAbs.log2<1920:=by
 rw[Int.natAbs_natCast];have h2:(10:Nat)^90<2^300:=()
 by_cases z:n=0
 .rw[z];decide+kernel
 .have:=(Nat.log2_lt z).mpr (bh h h2);lia
def az0(T:TX P w K mg)(l6:Own P w K mg base cY 1 "codes_of" ["word"] qb)(F:dM K "digits_of" "digits_of" Rh f fd):dJ P w K mg base cY 2 f fd ["number","least"] oG:=by
 refine F.oK aF5 λc8 A outer s H vs Q E hr h=>?_;obtain⟨n,k,rfl,hn,hk,kk⟩:=h;refine⟨_,(cX (dh (dF l6 hr (cT (aF9 PySem.F.slot_str_zfill PySem.F.type_str_zfill ac7 (YW WX rfl T.aG8 () (cT (pv 0))) (pv 1)))))),?_⟩;refine⟨_,rfl,Za hn,⟨_,rfl⟩,_,(k:Int),rfl,rfl,?_,_,rfl,?_,λp hp=>?_⟩
 .have:∀j:Fin 91,PadOk ((j.val:Nat):Int)=true:=();exact this ⟨k,()⟩
 .have e:=cI List.length (JL n k);rw[p_,oh]at e;unfold eX at e;rw[az,bR]at e;have:=j7 (k:=90) () hn;show(Txt.zfill (Str.ofString (toString (n:Int))) (k:Int)).cps.size<=100;lia
 .rw[JL];exact kk p hp
abbrev QV:Stmt:=top 72
def aE8:dP ["number","divisor"] ["number","divisor"] (c9 QV):=dW
inductive BI(vs:List V)(H:Hp)(Q:VK)(z3:XK):Prop|m(n d:Nat)(_:vs=[.int n,.int d])(_:0<d)(_:(d:Int)<2^900)(_:Q (.int (Sv68.rounded n d:Nat)) H)
def aw8(F:dM K "round_halves_up" "round_halves_up" QV f fd):dJ P w K mg base cY 1 f fd ["number","divisor"] BI:=by
 refine F.oK aE8 λc8 A outer s H vs Q E hr h=>?_;obtain⟨n,d,rfl,h0,h1,k⟩:=h;refine⟨_,(cX (dh (dm AX (dm fL (dm ki cZ (pv 0)) (pv 1)) (dm ki cZ (pv 1))))),?_⟩;refine⟨_,_,rfl,rfl,.inl ⟨(),()⟩,_,_,rfl,rfl,_,_,rfl,rfl,.inl ⟨(),()⟩,_,_,rfl,rfl,⟨(),?_⟩,?_⟩
 .have:(2:Int)^900*2<=2^1000:=();lia
 .unfold Sv68.rounded at k;have e:(2*(n:Int)+(d:Int))/(2*(d:Int))=(((2*n+d)/(2*d):Nat):Int):=by
   rw[Int.natCast_ediv]
   push_cast
   rfl
  rw[<-e]at k;exact k
end
def jE(H:Hp)(Q:VK)(b:cS):Prop:=∀p H',cR H H'->H' p=some (.lst (bv b))->Q (.ref p) H'
def jE.new{H H1:Hp}{Q:VK}{b:cS}(k:jE H Q b)(s:cR H H1):∀p,H1 p=none->Q (.ref p) (upd H1 p (.lst (bv b))):=λp hp=>k p _ (s.trans (cR.upd hp)) cV
section
abbrev P0:Stmt:=top 157
def NB:dP ["size","time","word"] ["size","time"] (c9 P0):=dW
inductive Ni(vs:List V)(H:Hp)(Q:VK)(z3:XK):Prop|m(n t:Nat)(_:vs=[.int n,.int t])(_:jE H Q (SH.qw (!(n==5)) t))
def aj6(T:TX P w K mg)(l6:Own P w K mg base cY 1 "codes_of" ["word"] qb)(F:dM K "show_noon" "show_noon" P0 f fd):dJ P w K mg base cY 2 f fd ["size","time"] Ni:=by
 refine F.oK NB λc8 A outer s H vs Q E hr h=>?_;obtain⟨n,t,rfl,k⟩:=h;have nd:=NB.nd;refine⟨_,(cW (dN (i:=2) nd (gD (dj jg (dm kO (pv 1) (dG T.ED)) (dG T.Wg)) eH eH))
  (cX (dh (dF l6 hr (cT (gD (dj dU (pv 0) (dG T.XI)) (pv 2) (fP Fp (pv 2) gQ (eY cZ)))))))),?_⟩
 have fin:∀z:Str,(z.length=2)->(∀one:Bool,SH.qw one t=if one=true then oct ((eX z).take 1)else oct (eX z))->eX (qF z none (some 1))=(eX z).take 1->jZ (eX z)->yS (wk qb [] E0 (kP (GY (yD (qI R8 (iL 0) (tC (.int 5)))) (iL 2) (GX Rq (iL 2) Me (BH (tC (.int 1))))) nI)) {nx:=λ_ H'=>Q .dI H',rt:=Q} [some (.int n),some (.int t),some (.str z)] H:=by
  intro z hz he hc hb;have bt:jZ ((eX z).take 1):=λx hx=>hb x (List.mem_of_mem_take hx);refine⟨rfl,_,rfl,dw (λq=>?_) (λq=>?_)⟩
  .have q1:n=5:=by have:=V.int.inj (aj q);lia
   refine⟨z,rfl,(),λp hp=>?_⟩;have kk:=k.new (cR.refl H) p hp;rw[he,q1]at kk;have e:bv (oct (eX z))=(eX z).map V.int:=by unfold bv;rw[BE hb]
   rw[<-e];exact kk
  .have q1:¬n=5:=λz=>q (by rw[z];rfl);refine⟨(1:Int),rfl,z,rfl,(by show z.length<=2^24;lia),_,rfl,?_,λp hp=>?_⟩
   .have e:=cI List.length hc;unfold eX at e;rw[az,aW,az,bR,bR]at e;show(qF z none (some 1)).cps.size<=100;lia
   .have kk:=k.new (cR.refl H) p hp;rw[he,show(!(n==5))=true by simpa using q1,ah rfl]at kk;have e:bv (oct ((eX z).take 1))=((eX z).take 1).map V.int:=by unfold bv;rw[BE bt]
    rw[hc,<-e];exact kk
 rcases Nat.lt_or_ge (t%86400000) 43200000 with q1|q1
 .have q:decide ((t:Int)%86400000<43200000)=true:=ak ();refine⟨_,_,rfl,rfl,(by show(0:Int)<_;decide),_,_,rfl,rfl,true,cI V.bl q,?_⟩;exact dZ (fin "AM" () (λone=>by unfold SH.qw;rw[ah q1];cases one<;>decide+kernel) () (by unfold jZ;decide+kernel))
 .have q:decide ((t:Int)%86400000<43200000)=false:=ao ();refine⟨_,_,rfl,rfl,(by show(0:Int)<_;decide),_,_,rfl,rfl,false,cI V.bl q,?_⟩;exact dB (fin "PM" () (λone=>by unfold SH.qw;rw[aa ()];cases one<;>decide+kernel) () (by unfold jZ;decide+kernel))
def wg(C:Addr)(H:Hp)(q:Addr)(l:UInt8)(n d:Nat):Prop:=Bt C H q (.int l.toNat) (.int n) (.int d)
abbrev PY:Stmt:=top 159
def as8:dP ["part","time"] ["part","time"] (c9 PY):=dW
inductive Fl(C:Addr)(vs:List V)(H:Hp)(Q:VK)(z3:XK):Prop|m(q l)(n d t:Nat)(_:vs=[.ref q,.int t])(_:wg C H q l n d)(_:jE H Q (SH.kr d t))
def aj1{f C:Addr}(T:TX P w K mg)(TP:sy K C)(iz:Own P w K mg base cY 2 "digits_of" ["number","least"] oG)(F:dM K "show_decimals" "show_decimals" PY f fd):dJ P w K mg base cY 3 f fd ["part","time"] (Fl C):=by
 refine F.oK as8 λc8 A outer s H vs Q E hr h=>?_;obtain⟨q,l,n,d,t,rfl,⟨dx,hq⟩,k⟩:=h;refine⟨_,(cW (dO (dj dU (dH (pv 0) rfl) cZ) (cX (dh (fJ ir))) dX)
  (cX (dh (dm ni (fJ (cT (dG T.yp))) (fP fX (dF iz hr (c_ (dm kO (pv 1) (dG T.Ai)) (cT cZ))) gQ (eY (dH (pv 0) rfl))))))),?_⟩
 unfold SH.kr at k;refine⟨q,C,dx,_,_,rfl,hq,TP.cl,TP.Az,xQ,rfl,_,rfl,dw (λz=>?_) (λz=>?_)⟩
 .have z1:d=0:=by have:=V.int.inj (aj z);lia
  rw[ah z1]at k;exact⟨aP _,λp hp=>k.new (cR.refl H) p hp⟩
 .have z1:¬d=0:=λy=>z (by rw[y];rfl);rw[aa z1]at k;refine⟨(by show 1<=2^24;decide),λp hp=>?_⟩;have s1:=cR.upd (o:=.lst [V.int 46]) hp;have ht:t%1000<1000:=Nat.mod_lt _ ();refine⟨_,_,rfl,rfl,(by show(0:Int)<_;decide),t%1000,3,?_,bh ht (),(),λp2 fS=>?_⟩
  .rw[show((t%1000:Nat):Int)=(t:Int)%1000 by lia];rfl
  .have s2:=cR.upd (o:=.lst (bv (Sv68.padded 3 (t%1000)))) fS;refine⟨q,C,dx,_,_,rfl,s2 _ _ (s1 _ _ hq),TP.cl,TP.Az,xQ,(d:Int),rfl,p2,_,rfl,cU.of cV,?_⟩;rw[Fe];intro p3 gB;have s3:=cR.upd (o:=.lst (bv ((Sv68.padded 3 (t%1000)).take d))) gB;have l3:(Sv68.padded 3 (t%1000)).length<=3:=by
    rw[oh];have:=j7 (k:=3) () (show t%1000<10^3 from ht);lia
   refine⟨p,p3,_,_,rfl,rfl,s3 _ _ (s2 _ _ cV),cV,(by rw[eB,aW];show 1+_<=2^24;lia),λp4 pN=>?_⟩;exact k.new ((s1.trans s2).trans s3) p4 pN
abbrev PX:Stmt:=top 158
def as7:dP ["part","time"] ["part","time"] (c9 PX):=dW
inductive Nd(C:Addr)(vs:List V)(H:Hp)(Q:VK)(z3:XK):Prop|m(q l)(n d t:Nat)(_:vs=[.ref q,.int t])(_:wg C H q l n d)(_:n<=9)(_:t<10^60)(_:d<=3)(_:jE H Q (SH.uF l n d t))
def aj0{f C:Addr}(T:TX P w K mg)(TP:sy K C)(iz:Own P w K mg base cY 2 "digits_of" ["number","least"] oG)(Dm:Own P w K mg base cY 3 "show_decimals" ["part","time"] (Fl C))(F:dM K "show_passed" "show_passed" PX f fd):dJ P w K mg base cY 4 f fd ["part","time"] (Nd C):=by
 refine F.oK as7 λc8 A outer s H vs Q E hr h=>?_;obtain⟨q,l,n,d,t,rfl,Sx,hn,ht,hd,k⟩:=h;refine⟨_,(cW (dO (dj dU (dH (pv 0) rfl) (dG T.AL)) (cX (dh (dF iz hr (c_ (dm mw (pv 1) (dG T.K7)) (cT (dH (pv 0) rfl)))))) dX)
  (cW (dO (dj dU (dH (pv 0) rfl) (dG T.En)) (cX (dh (dF iz hr (c_ (dm mw (pv 1) (dG T.JX)) (cT (dH (pv 0) rfl)))))) dX)
  (cX (dh (dm ni (dF iz hr (c_ (dm mw (pv 1) (dG T.Ai)) (cT (dH (pv 0) rfl)))) (dF Dm hr (c_ (pv 0) (cT (pv 1))))))))),?_⟩
 obtain⟨dx,hq⟩:=Sx;have Sx:wg C H q l n d:=⟨dx,hq⟩;unfold SH.uF at k;have tl:∀m:Nat,t/m<10^90:=λm=>bB (Nat.div_le_self _ _) (bh ht ());refine⟨q,C,dx,_,_,rfl,hq,TP.cl,TP.oA,lu,rfl,_,rfl,dw (λz=>?_) (λz=>?_)⟩
 .have z1:l=104:=iu.mpr (V.int.inj (aj z));rw[ah z1]at k;exact⟨_,_,rfl,rfl,⟨(),()⟩,q,C,dx,_,_,rfl,hq,TP.cl,TP.kj,kK,t/3600000,n,rfl,tl _,(),λp hp=>k.new (cR.refl H) p hp⟩
 .have z1:¬l=104:=λy=>z (by rw[y];rfl);rw[aa z1]at k;refine⟨q,C,dx,_,_,rfl,hq,TP.cl,TP.oA,lu,rfl,_,rfl,dw (λz=>?_) (λz=>?_)⟩
  .have z2:l=109:=iu.mpr (V.int.inj (aj z));rw[ah z2]at k;exact⟨_,_,rfl,rfl,⟨(),()⟩,q,C,dx,_,_,rfl,hq,TP.cl,TP.kj,kK,t/60000,n,rfl,tl _,(),λp hp=>k.new (cR.refl H) p hp⟩
  .have z2:¬l=109:=λy=>z (by rw[y];rfl);rw[aa z2]at k;refine⟨_,_,rfl,rfl,⟨(),()⟩,q,C,dx,_,_,rfl,hq,TP.cl,TP.kj,kK,t/1000,n,rfl,tl _,(),λp hp=>?_⟩;have s1:=cR.upd (o:=.lst (bv (Sv68.padded n (t/1000)))) hp;refine⟨q,l,n,d,t,rfl,⟨dx,s1 _ _ hq⟩,λp2 H2 s2 fS=>?_⟩;have l1:(Sv68.padded n (t/1000)).length<=200:=by
    rw[oh];have:=j7 (k:=90) () (tl 1000);lia
   have l2:(SH.kr d t).length<=10:=by
    unfold SH.kr;split
    .decide
    .rw[aK,aW];lia
   refine⟨p,p2,_,_,rfl,rfl,s2 _ _ cV,fS,(by rw[eB,eB];show _<=2^24;lia),λp3 gB=>?_⟩;rw[show bv (Sv68.padded n (t/1000))++bv (SH.kr d t)=bv (Sv68.padded n (t/1000)++SH.kr d t) by unfold bv bi;rw[bf,bf]];exact k.new (s1.trans s2) p3 gB
abbrev QJ:Stmt:=top 161
def aE4:dP ["year","size"] ["year","size"] (c9 QJ):=dW
inductive Ov(vs:List V)(H:Hp)(Q:VK)(z3:XK):Prop|m(y n:Nat)(_:vs=[.int y,.int n])(_:y<10^60)(_:jE H Q (if n<=2 then Sv68.padded 2 (y%100)else Sv68.padded 4 y))
def av6(T:TX P w K mg)(iz:Own P w K mg base cY 2 "digits_of" ["number","least"] oG)(F:dM K "show_year" "show_year" QJ f fd):dJ P w K mg base cY 3 f fd ["year","size"] Ov:=by
 refine F.oK aE4 λc8 A outer s H vs Q E hr h=>?_;obtain⟨y,n,rfl,hy,k⟩:=h;refine⟨_,(cX (dh (gD (dj iJ (pv 1) cZ) (dF iz hr (c_ (dm kO (pv 0) cZ) (cT cZ))) (dF iz hr (c_ (pv 0) (cT cZ)))))),?_⟩;refine⟨_,_,rfl,rfl,_,rfl,dw (λz=>?_) (λz=>?_)⟩
 .have z1:n<=2:=by have:=aj z;lia
  rw[ah z1]at k;exact⟨_,_,rfl,rfl,(by show(0:Int)<_;decide),y%100,2,rfl,bh (Nat.mod_lt y (by decide:0<100)) (),(),λp hp=>k.new (cR.refl H) p hp⟩
 .have z1:¬n<=2:=λy=>z (ak ());rw[aa z1]at k;exact⟨y,4,rfl,bh hy (),(),λp hp=>k.new (cR.refl H) p hp⟩
abbrev QM:Stmt:=top 162
def aE6:dP ["name","size"] ["name","size"] (c9 QM):=dW
def K5(z:Str)(j:Nat):eX (qF z none (some (j:Int)))=(eX z).take j:=by
 unfold eX qF;rw[HT.qc,show HT.e9 z.length 0 none=0 from rfl,List.drop_zero,Nat.sub_zero,bI]
 by_cases h:j<=z.length
 .rw[Nat.min_eq_left h]
 .rw[Nat.min_eq_right (),bq (by rw[az,bR];exact aI _),bq (by rw[az,bR];show z.length<=j;lia)]
inductive OA(vs:List V)(H:Hp)(Q:VK)(z3:XK):Prop|m(z:Str)(b:cS)(n:Nat)(_:vs=[.str z,.int n])(_:eX z=bi b)(_:z.length<=20)(_:jE H Q (SH.uG b n))
def aw0(T:TX P w K mg)(l6:Own P w K mg base cY 1 "codes_of" ["word"] qb)(F:dM K "show_name" "show_name" QM f fd):dJ P w K mg base cY 2 f fd ["name","size"] OA:=by
 refine F.oK aE6 λc8 A outer s H vs Q E hr h=>?_;obtain⟨z,b,n,rfl,hb,hz,k⟩:=h;refine⟨_,(cW (dO (dj dU (pv 1) cZ) (cX (dh (dF l6 hr (cT (fP Fp (pv 0) gQ (eY cZ)))))) dX)
  (cX (dh (dF l6 hr (cT (gD (dj dU (pv 1) cZ) (pv 0) (fP Fp (pv 0) gQ (eY cZ)))))))),?_⟩
 unfold SH.uG at k;have cl:∀j:Nat,(qF z none (some (j:Int))).length<=100:=λj=>by
  have e:=cI List.length (K5 z j);unfold eX at e;rw[az,aW,az,bR,bR]at e;show(qF z none (some (j:Int))).cps.size<=100;have:z.cps.size<=20:=hz;lia
 have cut:∀j:Nat,jE H Q (b.take j)->qb ([V.str (qF z none (some (j:Int)))]++[]) H Q E0:=λj k=>⟨_,rfl,cl j,λp hp=>by
  rw[K5,hb,show(bi b).take j=bi (b.take j) by unfold bi;rw[bI]];exact k.new (cR.refl H) p hp⟩
 refine⟨rfl,_,rfl,dw (λq=>?_) (λq=>?_)⟩
 .have q1:n=3:=by have:=V.int.inj (aj q);lia
  rw[ah q1]at k;exact⟨(3:Int),rfl,z,rfl,(by show z.length<=2^24;lia),cut 3 k⟩
 .have q1:¬n=3:=λy=>q (by rw[y];rfl);rw[aa q1]at k;refine⟨rfl,_,rfl,dw (λq=>?_) (λq=>?_)⟩
  .have q2:n=4:=by have:=V.int.inj (aj q);lia
   rw[ah q2]at k;exact⟨z,rfl,(),λp hp=>by rw[hb];exact k.new (cR.refl H) p hp⟩
  .have q2:¬n=4:=λy=>q (by rw[y];rfl);rw[aa q2]at k;exact⟨(1:Int),rfl,z,rfl,(by show z.length<=2^24;lia),cut 1 k⟩
end
def sV:Pc->Option (UInt8×Nat×Nat)
 | .part l n d=>some (l,n,d)
 | .passed l n d=>some (l,n,d)
 |_=>none
abbrev gF(p:Pc):Option UInt8:=(sV p).map λx=>x.1
abbrev jr:List V:=[.str "part",.str "passed"]
def rE(x:Str):Bool:=decide (x∈[iR,jA])
def aF8(x:Str):inV (.str x) jr=rE x:=jM x [iR,jA]
def ie.row{H0 H:Hp}{a:Addr}{p:Pc}{e:Nat}(h:ie C H0 H a p e)(hn:Named p):∃v dx,H a=some (.ins C.piece dx (m5 (.str p.name) v (.int e)))/\p.val C H0 H v/\dQ H "name" (.ref a)= .str p.name/\dQ H "value" (.ref a)=v/\((inV (.str p.name) jr=false/\sV p=none)\/(inV (.str p.name) jr=true/\∃q l n d dq,v= .ref q/\sV p=some (l,n,d)/\H q=some (.ins C.part dq (qi (.int (l.toNat:Nat)) (.int (n:Nat)) (.int (d:Nat)))))):=by
 obtain⟨v,dx,h1,h2,f1,f2⟩:=h.fields;refine⟨v,dx,h1,h2,f1,f2,?_⟩;rw[aF8];cases p with
 |part l n d=>
  obtain⟨q,e,_,dq,hq⟩:=h2;exact .inr ⟨by show rE iR=true;decide+kernel,q,l,n,d,dq,e,rfl,hq⟩
 |passed l n d=>
  obtain⟨q,e,_,dq,hq⟩:=h2;exact .inr ⟨by show rE jA=true;decide+kernel,q,l,n,d,dq,e,rfl,hq⟩
 |sign nm c=>
  rcases hn with e|e|e|e|e<;>exact .inl ⟨by show rE nm=false;rw[e];decide+kernel,rfl⟩
 |word nm n=>
  rcases hn with e|e<;>exact .inl ⟨by show rE nm=false;rw[e];decide+kernel,rfl⟩
 |text b=>exact .inl ⟨by show rE iD=false;decide+kernel,rfl⟩
 |exponent c=>exact .inl ⟨by show rE fc=false;decide+kernel,rfl⟩
 |colour k=>exact .inl ⟨by show rE gr=false;decide+kernel,rfl⟩
 |condition z x=>exact .inl ⟨by show rE gq=false;decide+kernel,rfl⟩
abbrev FE(H:Hp)(x:V):Option V:=if inV (dQ H "name" x) jr=true then some (dQ H "letter" (dQ H "value" x))else none
def KS{H0 H:Hp}{as:List Addr}{ps:List Pc}(hP:Ps C H0 H as ps)(hN:∀p∈ps,Named p):(as.map V.ref).filterMap (FE H)=bv (ps.filterMap gF):=by
 rw[Ps.fmap (g:=λp=>(gF p).map λc=>V.int (c.toNat:Int)) (λa p e hm hp=>by
  obtain⟨v,dx,h1,h2,f1,f2,h⟩:=hp.row (hN p hm);show(if inV (dQ H "name" (.ref a)) jr=true then _ else _)=_;rw[f1,f2];rcases h with⟨h,e⟩|⟨h,q,l,n,d,dq,rfl,e,hq⟩
  .rw[h,gF,e];rfl
  .rw[h,ah rfl,p9 hq (lu),gF,e];rfl) hP]
 clear hP hN
 induction ps with
 |nil=>rfl
 |cons p ps ih=>
  rw[aJ,aJ];cases h:gF p with
  |none=>exact ih
  |some c=>
   show V.int _::_=bv (c::_);rw[ih];rfl
def LC(ps:List Pc):(ps.filterMap gF).length<=ps.length:=List.length_filterMap_le ..
theorem Ps.take{H0 H:Hp}{as:List Addr}{ps:List Pc}(h:Ps C H0 H as ps)(n:Nat):Ps C H0 H (as.take n) (ps.take n):=A2.BG h n
def ae3(b:cS):fH (bv b) (some (-1)) none=bv b.getLast?.toList:=by
 unfold fH;rw[show HT.e9 (bv b).length (bv b).length none=(bv b).length from rfl,show HT.e9 (bv b).length 0 (some (-1))=((-1:Int)+((bv b).length:Int)).toNat from rfl,eB,Fd,Fc];rcases bW b with rfl|⟨r,c,rfl⟩
 .rfl
 .rw[bX,List.getLast?_concat,show((-1:Int)+(((r++[c]).length:Nat):Int)).toNat=r.length by rw[aC];show((-1:Int)+((r.length+1:Nat):Int)).toNat=_;lia,List.drop_left,bq (by rw[aC];show 1<=_+1-_;lia)];rfl
theorem A2.GO{α β:Type}{R:α->β->Prop}:∀{xs:List α} {ys:List β} {i:Nat} {y:β},A2 R xs ys->ys[i]? =some y->∃x,xs[i]? =some x/\R x y
 |_,_,i,_,.nil,h=>by simp at h
 |_,_,0,_,.cons a _,h=>⟨_,rfl,(aH h)▸a⟩
 |_,_,i+1,_,.cons _ t,h=>A2.GO (i:=i) t h
section
abbrev Q8:Stmt:=top 156
def Pw:dP ["pieces","at","part","before","behind","piece"] ["pieces","at"] (c9 Q8):=dW
inductive OS(K:b6)(C:Cs)(vs:List V)(H:Hp)(Q:VK)(z3:XK):Prop|m(a as ps H0)(i:Nat)(l:UInt8)(n d:Nat)(_:vs=[.ref a,.int i])(_:cU K H a (as.map V.ref))(_:as.length<=300)(_:Ps C H0 H as ps)(_:(∀p∈ps,Named p))(_:ps[i]? =some (.part l n d))(_:∀H',cR H H'->Q (.bl (SH.oJ ((ps.take i).filterMap gF) l n ((ps.drop (i+1)).filterMap gF))) H')
def ay0(T:TX P w K mg)(TP:lB K C.piece)(TQ:sy K C.part)(F:dM K "is_minutes" "is_minutes" Q8 f fd):dJ P w K mg base cY 1 f fd ["pieces","at"] (OS K C):=by
 refine F.oK Pw λc8 A outer s H vs Q E hr h=>?_;obtain⟨a,as,ps,H0,i,l,n,d,rfl,hS,hlen,hP,hN,hi,k⟩:=h;have nd:=Pw.nd;have iG:=hr.units;obtain⟨Bs,Bj,A_⟩:=T.MW;refine⟨_,(cW (dN (i:=2) nd (dH (fM fW (pv 0) (pv 1) (λ_ _=>rfl)) rfl))
  (cW (dO (PW.pt (mF (dj wu (dH (pv 2) rfl) (dG T.En)) (oE (dj iV (dH (pv 2) rfl) cZ)))) (cX (dh mG)) dX)
  (cW (l_ (i:=3) rfl nd rfl rfl (lD rfl rfl rfl rfl) (gR (fP fX (pv 0) gQ (eY (pv 1)))) (iA (N:=["pieces","at","part","before","behind","piece"]) (sc:=c9 (top 156)) (own:=[("piece",5)]) ()) (λ_ _ _ _ _=>fF (i:=5) nd (.inr rfl)) (λ_ _ _ _ _=>(mj (dj (show fV _ _ (rN K false)from lz) (show PE _ _ (gT K _ "name")from dH (pv 5) rfl) (i7 Bj) (by with_unfolding_all rfl)))) (λ_ _ _ _ _=>(show PE _ _ (gT K _ "letter")from dH (show PE _ _ (gT K _ "value")from dH (pv 5) rfl) rfl)))
  (cW (l_ (i:=4) rfl nd rfl rfl (lD rfl rfl rfl rfl) (gR (fP fX (pv 0) (eY (dm fL (pv 1) cZ)) gQ)) (iA (N:=["pieces","at","part","before","behind","piece"]) (sc:=c9 (top 156)) (own:=[("piece",5)]) ()) (λ_ _ _ _ _=>fF (i:=5) nd (.inr rfl)) (λ_ _ _ _ _=>(mj (dj (show fV _ _ (rN K false)from lz) (show PE _ _ (gT K _ "name")from dH (pv 5) rfl) (i7 Bj) (by with_unfolding_all rfl)))) (λ_ _ _ _ _=>(show PE _ _ (gT K _ "letter")from dH (show PE _ _ (gT K _ "value")from dH (pv 5) rfl) rfl)))
  (cX (dh (yG (fQ (ql iG) (fP fX (pv 3) (eY (sO sE cZ)) gQ) (fJ (cT (dG T.AL)))) (kh (fQ (ql iG) (fP fX (pv 4) gQ (eY cZ)) (fJ (cT (dG T.x9)))))))))))),?_⟩
 obtain⟨b,hb,e,hp⟩:=A2.GO hP hi;obtain⟨v,dx,h1,h2,f1,f2⟩:=hp.fields;obtain⟨q,rfl,_,dq,hq⟩:=h2;refine⟨a,_,_,_,rfl,rfl,hS,eV (j:=i) (v:=.ref b) (by rw[aR,hb];rfl),b,C.piece,dx,_,_,rfl,h1,TP.cl,TP.jz,jy,?_⟩;unfold SH.oJ at k;refine⟨q,C.part,dq,_,_,rfl,hq,TQ.cl,TQ.oA,lu,rfl,_,rfl,dw (λz=>?_) (λz=>?_)⟩
 .have z1:¬l=109:=λy=>by rw[y]at z;exact cJ z ()
  rw[ao z1,aZ]at k;exact k H (cR.refl H)
 have z1:l=109:=by
  by_cases y:l=109
  .exact y
  .exact cJ (show(!decide (V.int (l.toNat:Int)=V.int 109))=true by rw[ao (show¬V.int (l.toNat:Int)=V.int 109 from λx=>y (iu.mpr (V.int.inj x)))];rfl) z
 rw[ak z1,aY]at k;refine⟨q,C.part,dq,_,_,rfl,hq,TQ.cl,TQ.kj,kK,_,_,rfl,rfl,_,rfl,dw (λz=>?_) (λz=>?_)⟩
 .have z2:¬n<=2:=by have:=aj z;lia
  rw[ao z2,aZ]at k;exact k H (cR.refl H)
 have z2:n<=2:=by
  by_cases y:n<=2
  .exact y
  .exact cJ (ak (show(2:Int)<(n:Int) by lia)) z
 rw[ak z2,aY]at k;have gv:i<ps.length:=(aD.mp hi).1;have hl:=hP.length;have each:∀{G:Hp} {bs:List Addr} {qs:List Pc} {x:V} {H':Hp},cR H G->Ps C H0 G bs qs->(∀p∈qs,Named p)->x∈bs.map V.ref->cR G H'->∃(b:Addr) (p:Pc) (e:Nat) (v:V) (dx:Addr),x= .ref b/\H' b=some (.ins C.piece dx (m5 (.str p.name) v (.int (e:Nat))))/\dQ G "name" x= .str p.name/\((inV (.str p.name) jr=false)\/(inV (.str p.name) jr=true/\∃(q:Addr) (l:UInt8) (n d:Nat) (dq:Addr),v= .ref q/\dQ G "letter" (dQ G "value" x)= .int (l.toNat:Nat)/\H' q=some (.ins C.part dq (qi (.int (l.toNat:Nat)) (.int (n:Nat)) (.int (d:Nat)))))):=by
  intro G bs qs x H' _ hq hn hx sm;obtain⟨b,p,e,rfl,hm,hp⟩:=hq.mem hx;obtain⟨v,dx,h1,h2,f1,f2,h⟩:=hp.row (hn p hm);refine⟨b,p,e,v,dx,rfl,sm _ _ h1,f1,?_⟩;rcases h with⟨h,_⟩|⟨h,q,l,n,d,dq,rfl,_,hq⟩
  .exact .inl h
  .exact .inr ⟨h,q,l,n,d,dq,rfl,by rw[f2];exact p9 hq (lu),sm _ _ hq⟩
 have ec:fH (as.map V.ref) none (some (i:Int))=(as.take i).map V.ref:=by
  rw[sI,bI]
 refine⟨(i:Int),rfl,a,_,rfl,hS,?_⟩;rw[ec];intro p1 jW;have s1:=cR.upd (o:=.lst ((as.take i).map V.ref)) jW;generalize Ik:upd H p1 (.lst ((as.take i).map V.ref))=G1 at*;have i9:cU K G1 p1 ((as.take i).map V.ref):=cU.of (by rw[<-Ik,cV]);have qQ:=(hP.same s1).take i;have S9:∀p∈ps.take i,Named p:=λp hp=>hN p (List.mem_of_mem_take hp);refine⟨p1,rfl,⟨_,i9⟩,λD1 gP=>i6 (FE G1) i9 gP (by rw[az,aW];lia) ?_ ?_⟩
 .intro x H' hx sm Q1 Q2 g1 g2;obtain⟨b,p,e,v,dx,rfl,hb,f1,h⟩:=each s1 qQ S9 hx sm;refine⟨rfl,b,C.piece,dx,_,_,rfl,hb,TP.cl,TP.fz,fu,Bs,_,rfl,.inr (A_ _),rfl,rfl,_,rfl,?_⟩;show if inV (.str p.name) jr=true then _ else _;rcases h with h|⟨h,q,l,n,d,dq,rfl,f2,hq⟩
  .rw[h];exact dB (g2 (by show(if inV (dQ G1 "name" (.ref b)) jr=true then _ else _)=_;rw[f1,h];rfl))
  .rw[h];exact dZ ⟨b,C.piece,dx,_,_,rfl,hb,TP.cl,TP.jz,jy,q,C.part,dq,_,_,rfl,hq,TQ.cl,TQ.oA,lu,g1 _ (by show(if inV (dQ G1 "name" (.ref b)) jr=true then _ else _)=_;rw[f1,h,ah rfl,f2])⟩
 rw[KS qQ S9];have l1:=LC (ps.take i);generalize (ps.take i).filterMap gF=pre at*;have s2:=cR.upd (o:=.lst (bv pre)) gP;generalize zS:upd G1 D1 (.lst (bv pre))=G2 at*;have pK:cU K G2 D1 (bv pre):=cU.of (by rw[<-zS,cV]);have gV:=s1.trans s2;have Ir:fH (as.map V.ref) (some ((i:Int)+1)) none=(as.drop (i+1)).map V.ref:=by
  have:=q_ (as.map V.ref) (i+1);rw[<-bH]at this;exact this
 refine⟨_,_,rfl,rfl,(i:Int)+1,rfl,a,_,rfl,gV.seq hS,?_⟩;rw[Ir];intro p3 gB;have s3:=cR.upd (o:=.lst ((as.drop (i+1)).map V.ref)) gB;generalize Ij:upd G2 p3 (.lst ((as.drop (i+1)).map V.ref))=G3 at*;have pJ:cU K G3 p3 ((as.drop (i+1)).map V.ref):=cU.of (by rw[<-Ij,cV]);have f9:=gV.trans s3;have CF:=(hP.same f9).drop (i+1);have S8:∀p∈ps.drop (i+1),Named p:=λp hp=>hN p (List.mem_of_mem_drop hp);refine⟨p3,rfl,⟨_,pJ⟩,λD3 jY=>i6 (FE G3) pJ jY (by rw[az,aQ];lia) ?_ ?_⟩
 .intro x H' hx sm Q1 Q2 g1 g2;obtain⟨b,p,e,v,dx,rfl,hb,f1,h⟩:=each f9 CF S8 hx sm;refine⟨rfl,b,C.piece,dx,_,_,rfl,hb,TP.cl,TP.fz,fu,Bs,_,rfl,.inr (A_ _),rfl,rfl,_,rfl,?_⟩;show if inV (.str p.name) jr=true then _ else _;rcases h with h|⟨h,q,l,n,d,dq,rfl,f2,hq⟩
  .rw[h];exact dB (g2 (by show(if inV (dQ G3 "name" (.ref b)) jr=true then _ else _)=_;rw[f1,h];rfl))
  .rw[h];exact dZ ⟨b,C.piece,dx,_,_,rfl,hb,TP.cl,TP.jz,jy,q,C.part,dq,_,_,rfl,hq,TQ.cl,TQ.oA,lu,g1 _ (by show(if inV (dQ G3 "name" (.ref b)) jr=true then _ else _)=_;rw[f1,h,ah rfl,f2])⟩
 rw[KS CF S8];have l3:=LC (ps.drop (i+1));generalize (ps.drop (i+1)).filterMap gF=post at*;have s4:=cR.upd (o:=.lst (bv post)) jY;generalize hG4:upd G3 D3 (.lst (bv post))=G4 at*;have hq4:cU K G4 D3 (bv post):=cU.of (by rw[<-hG4,cV]);have iS:=f9.trans s4;refine⟨1,rfl,-1,rfl,D1,_,rfl,(s3.trans s4).seq pK,?_⟩;rw[ae3];intro p5 pM;have s5:=cR.upd (o:=.lst (bv pre.getLast?.toList)) pM;refine⟨(by show 1<=2^24;decide),λp6 Cu=>⟨_,_,iE (l:=bi pre.getLast?.toList) (cU.of (by rw[eK (fE cV Cu),cV])),iE (l:=[104]) (cU.of cV),shaped_ints _,shaped_ints _,_,rfl,?_⟩⟩;have s6:=cR.upd (o:=.lst [V.int 104]) Cu;have e5:decide (bi pre.getLast?.toList=[104])=decide (pre.getLast? =some 104):=by
  rw[show([104]:List Int)=bi [104]from rfl,bi_dec];cases pre.getLast? with
  |none=>rfl
  |some x=>show decide ([x]=[104])=_;simp
 rw[mh,e5];have s_:=(iS.trans s5).trans s6;cases h5:decide (pre.getLast? =some 104)with
 |true=>
  rw[h5,Bool.true_or]at k;exact dZ (k _ s_)
 |false=>
  rw[h5,Bool.false_or]at k;refine dB ⟨1,rfl,D3,_,rfl,((s5.trans s6).seq hq4),?_⟩;rw[show fH (bv post) none (some 1)=bv (post.take 1)from Fe post 1];intro p7 hp7;have s7:=cR.upd (o:=.lst (bv (post.take 1))) hp7;refine⟨(by show 1<=2^24;decide),λp8 Sy=>⟨_,_,iE (l:=bi (post.take 1)) (cU.of (by rw[eK (fE cV Sy),cV])),iE (l:=[115]) (cU.of cV),shaped_ints _,shaped_ints _,?_⟩⟩;have e7:decide (bi (post.take 1)=[115])=decide (post.head? =some 115):=by
   rw[show([115]:List Int)=bi [115]from rfl,bi_dec];cases post with
   |nil=>rfl
   |cons x r=>show decide ([x]=[115])=decide (some x=some 115);simp
  rw[mh,e7];exact k _ ((s_.trans s7).trans (cR.upd Sy))
end
abbrev kC(p:Pc):Option Nat:=(sV p).bind λx=>if x.1=115 then some x.2.2 else none
abbrev Row3:=UInt8×Nat×Nat
abbrev Rows(C:Addr)(H:Hp)(qs:List Addr)(rs:List Row3):Prop:=A2 (λq x=>wg C H q x.1 x.2.1 x.2.2) qs rs
abbrev yr(H:Hp)(x:V):Option V:=if inV (dQ H "name" x) jr=true then some (dQ H "value" x)else none
def YH{H0 H:Hp}{as:List Addr}{ps:List Pc}(hP:Ps C H0 H as ps)(hN:∀p∈ps,Named p):∃qs,(as.map V.ref).filterMap (yr H)=qs.map V.ref/\Rows C.part H qs (ps.filterMap sV):=by
 induction hP with
 |nil=>exact⟨[],rfl,.nil⟩
 |@cons a p as ps r t ih=>
  obtain⟨qs,e1,h1⟩:=ih λp hp=>hN p (aA _ hp);obtain⟨e,hp⟩:=r;obtain⟨v,dx,_,_,f1,f2,h⟩:=hp.row (hN p aB);have ev:yr H (.ref a)=if inV (.str p.name) jr=true then some v else none:=by
   show(if inV (dQ H "name" (.ref a)) jr=true then _ else _)=_;rw[f1,f2]
  rw[aX,aJ,aJ,ev];rcases h with⟨h,e⟩|⟨h,q,l,n,d,dq,rfl,e,hq⟩
  .rw[h,e];exact⟨qs,e1,h1⟩
  .rw[h,e];exact⟨q::qs,by show V.ref q::_=_;rw[e1];rfl,.cons ⟨dq,hq⟩ h1⟩
abbrev FN(H:Hp)(x:V):Option V:=if dQ H "letter" x= .int 115 then some (dQ H "decimals" x)else none
def Zp{C:Addr}{H:Hp}{qs:List Addr}{rs:List Row3}(h:Rows C H qs rs):(qs.map V.ref).filterMap (FN H)=((rs.filterMap λx=>if x.1=115 then some x.2.2 else none).map λ(n:Nat)=>(n:Int)).map V.int:=by
 induction h with
 |nil=>rfl
 |@cons q x qs rs r t ih=>
  obtain⟨dq,hq⟩:=r;have ev:FN H (.ref q)=if x.1=115 then some (.int (x.2.2:Nat))else none:=by
   show(if dQ H "letter" (.ref q)= .int 115 then some (dQ H "decimals" (.ref q))else none)=_;rw[p9 hq (lu),p9 hq (xQ)]
   by_cases z:x.1=115
   .rw[ah z,z];rfl
   .rw[aa z,aa (show¬V.int (x.1.toNat:Int)=V.int 115 from λy=>z (iu.mpr (V.int.inj y)))]
  rw[aX,aJ,aJ,ev]
  by_cases z:x.1=115
  .rw[ah z,ah z];show V.int _::_=V.int _::_;rw[ih]
  .rw[aa z,aa z];exact ih
def ah2(ps:List Pc):((ps.filterMap sV).filterMap λx=>if x.1=115 then some x.2.2 else none)=ps.filterMap kC:=by
 induction ps with
 |nil=>rfl
 |cons p ps ih=>
  rw[aJ,aJ,kC];cases sV p with
  |none=>exact ih
  |some x=>
   show List.filterMap _ (x::_)=_;rw[aJ,ih];rfl
def Rows.mem{C:Addr}{H:Hp}{qs:List Addr}{rs:List Row3}{x:V}(h:Rows C H qs rs)(hx:x∈qs.map V.ref):∃q y,x= .ref q/\y∈rs/\wg C H q y.1 y.2.1 y.2.2:=by
 obtain⟨q,hq,rfl⟩:=bJ.mp hx;obtain⟨y,hy,z⟩:=A2.zd h hq;exact⟨q,y,rfl,hy,z⟩
def sU(ss:List Nat)(z:Nat):Nat:=if ss=[]then z*86400/10^12*1000 else Sv68.rounded (z*86400*10^SH.jk ss) (10^12)*10^(3-SH.jk ss)
def Kh{g:Nat}(h:g<=Sv68.LASTDAY):(Sv68.dateOf g).1<10^60/\((Sv68.dateOf g).2.1-1<12/\1<=(Sv68.dateOf g).2.1/\(Sv68.dateOf g).2.1<10^60)/\(Sv68.dateOf g).2.2<10^60:=by
 have big:10000<10^60:=();rcases Nat.eq_zero_or_pos g with rfl|h0
 .exact⟨bh (show 1900<10000 by decide) big,⟨(),(),bh (show 1<10000 by decide) big⟩,bh (show 0<10000 by decide) big⟩
 .obtain⟨y,m,d,hr,e⟩:=DY.ai2 h0 h;rw[DY.K4 hr e];obtain⟨r1,r2,r3,r4,r5,r6⟩:=hr;have:=(DY.JE (y:=y) (m:=m)).2;exact⟨bh (show y<10000 by lia) big,⟨by show m-1<12;lia,r3,bh (show m<10000 by lia) big⟩,bh (show d<10000 by lia) big⟩
noncomputable def IC:List Str:=["Sunday","Monday","Tuesday","Wednesday","Thursday","Friday","Saturday"]
noncomputable def C_:List Str:=["January","February","March","April","May","June","July","August","September","October","November","December"]
def M5:∀j:Fin 7,eX (IC.getD j.val "")=bi (Sv68.str (Sv68.DAYS.getD j.val ""))/\(IC.getD j.val "").length<=20:=()
def N6:∀j:Fin 12,eX (C_.getD j.val "")=bi (Sv68.str (Sv68.MONTHS.getD j.val ""))/\(C_.getD j.val "").length<=20:=()
def getD_at{l:List Str}{j:Nat}(h:j<l.length):(l.map V.str)[j]? =some (.str (l.getD j "")):=by
 rw[aR,br h,List.getD_eq_getElem?_getD,br h];rfl
section
abbrev QU:Stmt:=top 155
def Ph:dP ["pieces","number","parts","decimals","most","rounded","piece","part"] ["pieces","number"] (c9 QU):=dW
inductive OH(K:b6)(C:Cs)(vs:List V)(H:Hp)(Q:VK)(z3:XK):Prop|m(a as ps H0)(z:Nat)(_:vs=[.ref a,.int z])(_:cU K H a (as.map V.ref))(_:as.length<=300)(_:Ps C H0 H as ps)(_:(∀p∈ps,Named p))(_:(∀d∈ps.filterMap kC,d<=3))(_:∀H',cR H H'->Q (.int (sU (ps.filterMap kC) z:Nat)) H')
def aw7(T:TX P w K mg)(TP:lB K C.piece)(TQ:sy K C.part)(j9:Own P w K mg base cY 1 "power" ["base","exponent"] sq)(xP:Own P w K mg base cY 1 "round_halves_up" ["number","divisor"] BI)(F:dM K "round_time" "round_time" QU f fd):dJ P w K mg base cY 2 f fd ["pieces","number"] (OH K C):=by
 refine F.oK Ph λc8 A outer s H vs Q E hr h=>?_;obtain⟨a,as,ps,H0,z,rfl,hS,hlen,hP,hN,hd,k⟩:=h;have nd:=Ph.nd;have iG:=hr.units;obtain⟨Bs,Bj,A_⟩:=T.MW;refine⟨_,(cW (l_ (i:=2) rfl nd rfl rfl (lD rfl rfl rfl rfl) (gR (pv 0)) (iA (N:=["pieces","number","parts","decimals","most","rounded","piece","part"]) (sc:=c9 (top 155)) (own:=[("piece",6)]) ()) (λ_ _ _ _ _=>fF (i:=6) nd (.inr rfl)) (λ_ _ _ _ _=>(mj (dj (show fV _ _ (rN K false)from lz) (show PE _ _ (gT K _ "name")from dH (pv 6) rfl) (i7 Bj) (by with_unfolding_all rfl)))) (λ_ _ _ _ _=>(show PE _ _ (gT K _ "value")from dH (pv 6) rfl)))
  (cW (l_ (i:=3) rfl nd rfl rfl (lD rfl rfl rfl rfl) (gR (pv 2)) (iA (N:=["pieces","number","parts","decimals","most","rounded","piece","part"]) (sc:=c9 (top 155)) (own:=[("part",7)]) ()) (λ_ _ _ _ _=>fF (i:=7) nd (.inr rfl)) (λ_ _ _ _ _=>(mj (dj dU (show PE _ _ (gT K _ "letter")from dH (pv 7) rfl) (dG T.x9)))) (λ_ _ _ _ _=>(show PE _ _ (gT K _ "decimals")from dH (pv 7) rfl)))
  (cW (dO (dj (ql iG) (pv 3) (fJ ir)) (cX (dh (dm ki (dm AX (dm ki (pv 1) (dG T.Ja)) (dG T.wD)) (dG T.Ai)))) dX)
  (cW (dN (i:=4) nd (eN (Og rfl) rfl T.wA () (cT (pv 3))))
  (cW (dN (i:=5) nd (dF xP hr (c_ (dm ki (dm ki (pv 1) (dG T.Ja)) (dF j9 hr (c_ cZ (cT (pv 4))))) (cT (dG T.wD)))))
  (cX (dh (dm ki (pv 5) (dF j9 hr (c_ cZ (cT (dm iI cZ (pv 4))))))))))))),?_⟩
 obtain⟨qs,eq,hR⟩:=YH hP hN;have hql:qs.length<=300:=by
  have:=cI List.length eq;have h2:=List.length_filterMap_le (yr H) (as.map V.ref);rw[az]at this h2;lia
 refine⟨a,rfl,⟨_,hS⟩,λD1 gP=>i6 (yr H) hS gP (by rw[az];lia) ?_ ?_⟩
 .intro x H' hx sm Q1 Q2 g1 g2;obtain⟨b,p,e,rfl,hm,hp⟩:=hP.mem hx;obtain⟨v,dx,h1,h2,f1,f2,h⟩:=hp.row (hN p hm);refine⟨rfl,b,C.piece,dx,_,_,rfl,sm _ _ h1,TP.cl,TP.fz,fu,Bs,_,rfl,.inr (A_ _),rfl,rfl,_,rfl,?_⟩;have ev:yr H (.ref b)=if inV (.str p.name) jr=true then some v else none:=by
   show(if inV (dQ H "name" (.ref b)) jr=true then _ else _)=_;rw[f1,f2]
  show if inV (.str p.name) jr=true then _ else _;cases hh:inV (.str p.name) jr with
  |true=>exact dZ ⟨b,C.piece,dx,_,_,rfl,sm _ _ h1,TP.cl,TP.jz,jy,g1 _ (by rw[ev,hh];rfl)⟩
  |false=>exact dB (g2 (by rw[ev,hh];rfl))
 rw[eq];have s1:=cR.upd (o:=.lst (qs.map V.ref)) gP;generalize Ik:upd H D1 (.lst (qs.map V.ref))=G1 at*;have i9:cU K G1 D1 (qs.map V.ref):=cU.of (by rw[<-Ik,cV]);have S3:Rows C.part G1 qs (ps.filterMap sV):=A2.imp (λ_ _ ⟨dx,z⟩=>⟨dx,s1 _ _ z⟩) hR;refine⟨D1,rfl,⟨_,i9⟩,λD2 pQ=>i6 (FN G1) i9 pQ (by rw[az];lia) ?_ ?_⟩
 .intro x H' hx sm Q1 Q2 g1 g2;obtain⟨q,y,rfl,hy,dx,hq⟩:=S3.mem hx;have e1:=p9 hq (lu);have e2:=p9 hq (xQ);refine⟨rfl,q,C.part,dx,_,_,rfl,sm _ _ hq,TQ.cl,TQ.oA,lu,rfl,_,rfl,dw (λz=>?_) (λz=>?_)⟩
  .have z1:=aj z;exact⟨q,C.part,dx,_,_,rfl,sm _ _ hq,TQ.cl,TQ.Az,xQ,g1 _ (by show(if dQ G1 "letter" (.ref q)= .int 115 then some (dQ G1 "decimals" (.ref q))else none)=_;rw[e1,e2,ah z1])⟩
  .exact g2 (by show(if dQ G1 "letter" (.ref q)= .int 115 then some (dQ G1 "decimals" (.ref q))else none)=_;rw[e1,aa λx=>z (ak x)])
 rw[Zp S3,ah2];have hsl:(ps.filterMap kC).length<=300:=by
  have:=List.length_filterMap_le kC ps;have:=hP.length;lia
 generalize ps.filterMap kC=ss at*;have s2:=cR.upd (o:=.lst ((ss.map λ(n:Nat)=>(n:Int)).map V.int)) pQ;generalize zS:upd G1 D2 (.lst ((ss.map λ(n:Nat)=>(n:Int)).map V.int))=G2 at*;have pK:cU K G2 D2 ((ss.map λ(n:Nat)=>(n:Int)).map V.int):=cU.of (by rw[<-zS,cV]);have gV:=s1.trans s2;unfold sU at k;refine⟨aP _,λp3 gB=>?_⟩;have s3:=cR.upd (o:=.lst []) gB;refine⟨_,_,iE (l:=ss.map λ(n:Nat)=>(n:Int)) (s3.seq pK),iE (l:=[]) (cU.of cV),shaped_ints _,shaped_ints _,_,rfl,?_⟩;rw[mh];have f9:=gV.trans s3
 by_cases he:ss=[]
 .rw[ah he]at k;rw[he];refine dZ ⟨_,_,rfl,rfl,.inr ⟨(),()⟩,_,_,rfl,rfl,⟨(),()⟩,_,_,rfl,rfl,.inr ⟨(),()⟩,?_⟩;have kk:=k _ f9;have e:(((z*86400/10^12*1000:Nat)):Int)=(z:Int)*86400/1000000000000*1000:=by
   rw[Int.natCast_mul,Int.natCast_ediv,Int.natCast_mul];rfl
  rw[e]at kk;exact kk
 .rw[aa he]at k;have dR:¬decide (ss.map (λ(n:Nat)=>(n:Int))=[])=true:=λy=>he (List.map_eq_nil_iff.mp (aj y));rw[Bool.eq_false_iff.mpr dR];refine dB ⟨D2,ss.map λ(n:Nat)=>(n:Int),rfl,s3.seq pK,(by rw[az];exact List.length_pos_iff.mpr he),λm hm Gy=>?_⟩;obtain⟨j,hj,rfl⟩:=bJ.mp hm;have ej:SH.jk ss=j:=by
   have h1:=SH.EC hj;have h2:=Gy (SH.jk ss:Nat) (bJ.mpr ⟨_,SH.E5 he,rfl⟩);lia
  rw[ej]at k;have hj3:=hd j hj;refine⟨_,_,rfl,rfl,.inr ⟨(),()⟩,10,j,rfl,(),(),(),_,_,rfl,rfl,.inr ?_,z*86400*10^j,1000000000000,?_,(),(),?_⟩
  .have:(10:Int)^j<=10^3:=by
    have:=bL (n:=10) () hj3
    exact_mod_cast this
   have h0:(0:Int)<=10^j:=Int.pow_nonneg ();exact⟨(),()⟩
  .rw[Int.natCast_mul,Int.natCast_mul,Int.natCast_pow];rfl
  .refine⟨_,_,rfl,rfl,10,3-j,?_,(),(),(),_,_,rfl,rfl,.inr ?_,?_⟩
   .rw[show((3-j:Nat):Int)=3-(j:Int) by lia];rfl
   .have:(10:Int)^(3-j)<=10^3:=by
     have:=bL (n:=10) () (Nat.sub_le 3 j)
     exact_mod_cast this
    have h0:(0:Int)<=10^(3-j):=Int.pow_nonneg ();exact⟨(),()⟩
   .have kk:=k _ f9;rw[Int.natCast_mul,Int.natCast_pow]at kk;exact kk
abbrev QL:Stmt:=top 160
def Pa:dP ["part","time","has_noon","number","date","name","hour"] ["part","time","has_noon"] (c9 QL):=dW
inductive Oz(C:Addr)(vs:List V)(H:Hp)(Q:VK)(z3:XK):Prop|m(q l)(n d t:Nat)(noon:Bool)(_:vs=[.ref q,.int t,.bl noon])(_:wg C H q l n d)(_:n<=9)(_:t/86400000<=2958464)(_:d<=3)(_:jE H Q (SH.oH l n d t noon))
def av9{f C CD:Addr}(T:TX P w K mg)(TQ:sy K C)(TD:FY K CD)(iz:Own P w K mg base cY 2 "digits_of" ["number","least"] oG)(Dm:Own P w K mg base cY 3 "show_decimals" ["part","time"] (Fl C))(ZN:Own P w K mg base cY 3 "date_of" ["number"] (Ll CD))(W3:Own P w K mg base cY 1 "weekday_of" ["number"] Nc)(XN:Own P w K mg base cY 3 "show_year" ["year","size"] Ov)(JZ:Own P w K mg base cY 2 "show_name" ["name","size"] OA)(F:dM K "show_part" "show_part" QL f fd):dJ P w K mg base cY 4 f fd ["part","time","has_noon"] (Oz C):=by
 refine F.oK Pa λc8 A outer s H vs Q E hr h=>?_;obtain⟨q,l,n,d,t,noon,rfl,⟨dx,hq⟩,hn,ht,hd,k⟩:=h;have nd:=Pa.nd;obtain⟨Vy,Vl,Ve⟩:=T.Vv;obtain⟨Wm,V8,V2⟩:=T.Wi;refine⟨_,(cW (dO (dj dU (dH (pv 0) rfl) (dG T.AL)) (cW (dN (i:=6) nd (dm kO (dm mw (pv 1) (dG T.K7)) cZ))
  (cX (dh (dF iz hr (c_ (gD (iH (pv 2)) (dm fL (dm kO (dm fL (pv 6) cZ) cZ) cZ) (pv 6)) (cT (dH (pv 0) rfl))))))) dX)
  (cW (dO (dj dU (dH (pv 0) rfl) (dG T.x9)) (cX (dh (dm ni (dF iz hr (c_ (dm kO (dm mw (pv 1) (dG T.Ai)) cZ) (cT (dH (pv 0) rfl)))) (dF Dm hr (c_ (pv 0) (cT (pv 1))))))) dX)
  (cW (dN (i:=3) nd (dm mw (pv 1) (dG T.ED)))
  (cW (dN (i:=4) nd (dF ZN hr (cT (pv 3))))
  (cW (dO (dj dU (dH (pv 0) rfl) (dG T.Zz)) (cX (dh (dF XN hr (c_ (dH (pv 4) rfl) (cT (dH (pv 0) rfl)))))) dX)
  (cW (dO (dj dU (dH (pv 0) rfl) (dG T.ZA)) (cW (dN (i:=5) nd (fM yw (i7 Vl) (dF W3 hr (cT (pv 3))) (λ_ _=>rfl)))
  (cX (dh (gD (dj iJ (dH (pv 0) rfl) cZ) (dF iz hr (c_ (dH (pv 4) rfl) (cT (dH (pv 0) rfl)))) (dF JZ hr (c_ (pv 5) (cT (dH (pv 0) rfl)))))))) dX)
  (cW (dN (i:=5) nd (fM yw (i7 V8) (dm iI (dH (pv 4) rfl) cZ) (λ_ _=>rfl)))
  (cX (dh (gD (dj iJ (dH (pv 0) rfl) cZ) (dF iz hr (c_ (dH (pv 4) rfl) (cT (dH (pv 0) rfl)))) (dF JZ hr (c_ (pv 5) (cT (dH (pv 0) rfl)))))))))))))),?_⟩
 unfold SH.oH at k;refine⟨q,C,dx,_,_,rfl,hq,TQ.cl,TQ.oA,lu,rfl,_,rfl,dw (λz=>?_) (λz=>?_)⟩
 .have z1:l=104:=iu.mpr (V.int.inj (aj z));rw[ah z1]at k;refine⟨_,_,rfl,rfl,⟨(),()⟩,_,_,rfl,rfl,(by show(0:Int)<_;decide),?_⟩;have e1:((t/3600000%24:Nat):Int)=(t:Int)/3600000%24:=();have hh:t/3600000%24<24:=Nat.mod_lt _ ();generalize t/3600000%24=h at*;refine⟨noon,rfl,?_⟩;cases noon with
  |true=>
   rw[ah rfl]at k;refine dZ ⟨_,_,rfl,rfl,_,_,rfl,rfl,(by show(0:Int)<_;decide),_,_,rfl,rfl,q,C,dx,_,_,rfl,hq,TQ.cl,TQ.kj,kK,(h+11)%12+1,n,?_,?_,(),λp hp=>k.new (cR.refl H) p hp⟩
   .rw[show(((h+11)%12+1:Nat):Int)=((h:Int)+11)%12+1 by lia,e1];rfl
   .exact bh (show(h+11)%12+1<14 by lia) ()
  |false=>
   rw[aa ()]at k;refine dB ⟨q,C,dx,_,_,rfl,hq,TQ.cl,TQ.kj,kK,h,n,?_,?_,(),λp hp=>k.new (cR.refl H) p hp⟩
   .rw[e1];rfl
   .exact bh hh ()
 have z1:¬l=104:=λy=>z (by rw[y];rfl);rw[aa z1]at k;refine⟨q,C,dx,_,_,rfl,hq,TQ.cl,TQ.oA,lu,rfl,_,rfl,dw (λz=>?_) (λz=>?_)⟩
 .have z2:l=115:=iu.mpr (V.int.inj (aj z));rw[ah z2]at k;have e1:((t/1000%60:Nat):Int)=(t:Int)/1000%60:=();have hh:t/1000%60<60:=Nat.mod_lt _ ();refine⟨_,_,rfl,rfl,⟨(),()⟩,_,_,rfl,rfl,(by show(0:Int)<_;decide),q,C,dx,_,_,rfl,hq,TQ.cl,TQ.kj,kK,t/1000%60,n,?_,bh hh (),(),λp hp=>?_⟩
  .rw[e1];rfl
  have s1:=cR.upd (o:=.lst (bv (Sv68.padded n (t/1000%60)))) hp;refine⟨q,l,n,d,t,rfl,⟨dx,s1 _ _ hq⟩,λp2 H2 s2 fS=>?_⟩;have l1:(Sv68.padded n (t/1000%60)).length<=200:=by
   rw[oh];have:=j7 (k:=2) () (bh hh ());lia
  have l2:(SH.kr d t).length<=10:=by
   unfold SH.kr;split
   .decide
   .rw[aK,aW];lia
  refine⟨p,p2,_,_,rfl,rfl,s2 _ _ cV,fS,(by rw[eB,eB];show _<=2^24;lia),λp3 gB=>?_⟩;rw[show bv (Sv68.padded n (t/1000%60))++bv (SH.kr d t)=bv (Sv68.padded n (t/1000%60)++SH.kr d t) by unfold bv bi;rw[bf,bf]];exact k.new (s1.trans s2) p3 gB
 have z2:¬l=115:=λy=>z (by rw[y];rfl);rw[aa z2]at k;have e1:((t/86400000:Nat):Int)=(t:Int)/86400000:=rfl;refine⟨_,_,rfl,rfl,⟨(),()⟩,?_⟩;show qC _ _ _ [_,_,_,some (V.int ((t:Int)/86400000)),_,_,_] H;rw[<-e1];generalize t/86400000=g at*;clear e1;refine⟨g,rfl,ht,λad H1 s1 hD=>?_⟩;obtain⟨dd,hD⟩:=hD;have i9:=s1 _ _ hq;obtain⟨y1,m1,d1⟩:(Sv68.dateOf g).1<10^60/\((Sv68.dateOf g).2.1-1<12/\1<=(Sv68.dateOf g).2.1/\(Sv68.dateOf g).2.1<10^60)/\(Sv68.dateOf g).2.2<10^60:=Kh ht;generalize Sv68.dateOf g=x at*;obtain⟨y,m,dy⟩:=x;dsimp only at*;refine⟨q,C,dx,_,_,rfl,i9,TQ.cl,TQ.oA,lu,rfl,_,rfl,dw (λz=>?_) (λz=>?_)⟩
 .have z3:l=121:=iu.mpr (V.int.inj (aj z));rw[ah z3]at k;exact⟨ad,CD,dd,_,_,rfl,hD,TD.cl,TD.N4,ad8,q,C,dx,_,_,rfl,i9,TQ.cl,TQ.kj,kK,y,n,rfl,y1,λp H2 s2 hp=>k p H2 (s1.trans s2) hp⟩
 have z3:¬l=121:=λy=>z (by rw[y];rfl);rw[aa z3]at k;refine⟨q,C,dx,_,_,rfl,i9,TQ.cl,TQ.oA,lu,rfl,_,rfl,dw (λz=>?_) (λz=>?_)⟩
 .have z4:l=100:=iu.mpr (V.int.inj (aj z));rw[ah z4]at k;have h7:g%7<7:=Nat.mod_lt _ ();obtain⟨w1,w2⟩:=M5 ⟨g%7,h7⟩;refine⟨(g:Int),rfl,Vy,_,_,_,rfl,rfl,Ve _,eV (j:=g%7) (getD_at (l:=IC) h7),?_⟩;refine⟨q,C,dx,_,_,rfl,i9,TQ.cl,TQ.kj,kK,_,_,rfl,rfl,_,rfl,dw (λz=>?_) (λz=>?_)⟩
  .have z5:n<=2:=by have:=aj z;lia
   rw[ah z5]at k;exact⟨ad,CD,dd,_,_,rfl,hD,TD.cl,TD.Ql,an8,q,C,dx,_,_,rfl,i9,TQ.cl,TQ.kj,kK,dy,n,rfl,bh d1 (),(),λp hp=>k.new s1 p hp⟩
  .have z5:¬n<=2:=λy=>z (ak ());rw[aa z5]at k;exact⟨q,C,dx,_,_,rfl,i9,TQ.cl,TQ.kj,kK,_,_,n,rfl,w1,w2,λp H2 s2 hp=>k p H2 (s1.trans s2) hp⟩
 .have z4:¬l=100:=λy=>z (by rw[y];rfl);rw[aa z4]at k;obtain⟨w1,w2⟩:=N6 ⟨m-1,m1.1⟩;refine⟨ad,CD,dd,_,_,rfl,hD,TD.cl,TD.EZ,KZ,_,_,rfl,rfl,Wm,_,_,.str (C_.getD (m-1) ""),rfl,rfl,V2 _,(by rw[show(m:Int)-1=((m-1:Nat):Int) by lia];exact eV (j:=m-1) (getD_at (l:=C_) m1.1)),?_⟩;refine⟨q,C,dx,_,_,rfl,i9,TQ.cl,TQ.kj,kK,_,_,rfl,rfl,_,rfl,dw (λz=>?_) (λz=>?_)⟩
  .have z5:n<=2:=by have:=aj z;lia
   rw[ah z5]at k;exact⟨ad,CD,dd,_,_,rfl,hD,TD.cl,TD.EZ,KZ,q,C,dx,_,_,rfl,i9,TQ.cl,TQ.kj,kK,m,n,rfl,bh m1.2.2 (),(),λp hp=>k.new s1 p hp⟩
  .have z5:¬n<=2:=λy=>z (ak ());rw[aa z5]at k;exact⟨q,C,dx,_,_,rfl,i9,TQ.cl,TQ.kj,kK,_,_,n,rfl,w1,w2,λp H2 s2 hp=>k p H2 (s1.trans s2) hp⟩
end
def iM(p:Pc):Prop:=match p with
 | .text b=>b.length<=255
 | .sign nm c=>nm=dD->c=48\/c=35\/c=63
 | .word nm n=>nm=gZ->n=5\/n=3
 | .part l n d=>d<=3/\∃m,longest l=some m/\n<=m
 | .passed l n d=>d<=3/\n<=9/\(l=104\/l=109\/l=115)
 | .condition z x=>z∈oW
 |_=>True
theorem L0:∀{l:List Str} {b:cS} {x:Str×Int},uH l b=some x->x.1∈l
 |[],b,x,h=>by cases h
 |z::r,b,x,h=>by
  unfold uH at h;split at h
  .obtain⟨v,_,e⟩:=aG.mp h;rw[<-e];exact aB
  .exact aA _ (L0 h)
def MS(l:UInt8)(q:cS):g_ l q<=3:=by
 unfold g_ tenths;split
 .split
  .exact Nat.min_le_left _ _
  .decide
 .decide
def Er(b:cS)(i n:Nat):((b.drop i).take n).length<=b.length:=by
 rw[aW,aQ];omega
def YN{c:UInt8}{nm:Str}(h:je c=some nm):iM (.sign nm c):=by
 intro e;unfold je at h;split at h
 .assumption
 .exfalso;rw[e]at h
  repeat' split at h
  all_goals first
   |(cases h;done)
   |exact cJ (aH h) ()
def ai0{b:cS}{i n:Nat}{c:UInt8}{p:Pc}(hb:b.length<=255)(h:rp b i c=some (p,n)):iM p:=by
 unfold rp at h;split at h
 .split at h
  .cases h
  .rw[<-(cy (aH h)).1];exact aV (Er ..) hb
 unfold uT at h;split at h
 .cases hd:b[i+1]? with
  |none=>rw[hd]at h;cases h
  |some d=>
   rw[hd]at h;rw[<-(cy (aH h)).1];show(o9 c d (b.drop (i+1))).length<=255;unfold o9;split
   .decide
   .exact aV (Er ..) hb
 unfold uS at h;split at h
 .unfold brk at h;split at h
  .cases h
  .unfold o8 at h;split at h
   .rw[<-(cy (aH h)).1];trivial
   .split at h
    .rename_i x hx;rw[<-(cy (aH h)).1];exact L0 hx
    .split at h
     .rename_i hp;rw[<-(cy (aH h)).1];refine⟨MS _ _,?_⟩;generalize ((b.drop (i+1)).take (upTo b (i+1) 93)).map lower=low at*;cases low with
      |nil=>cases hp
      |cons x r=>
       unfold oZ at hp;rw[aE,aE]at hp;refine⟨aj hp.1,?_⟩;have:=hp.2.1;show x=104\/x=109\/x=115;simpa using this
     .cases h
 unfold wU at h;split at h
 .rename_i nm hs;rw[<-(cy (aH h)).1];exact YN hs
 unfold wR at h;split at h
 .rw[<-(cy (aH h)).1];trivial
 unfold tD at h;split at h
 .rename_i x hw;rw[<-(cy (aH h)).1];show x.1=gZ->x.2=5\/x.2=3;have gen:∀l:List (Str×Str),(∀y∈l,y.2=gZ->y.1.length=5\/y.1.length=3)->lF l b i=some x->x.1=gZ->x.2=5\/x.2=3:=by
   intro l
   induction l with
   |nil=>intro _ h;cases h
   |cons y l ih=>
    intro hl h;rw[vv]at h;split at h
    .rw[<-aH h];exact hl y aB
    .exact ih (λz hz=>hl z (aA _ hz)) h
  exact gen iK () hw
 unfold uR at h;split at h
 .rename_i m hm;split at h
  .cases h
  .rw[<-(cy (aH h)).1];exact⟨MS _ _,m,hm,()⟩
 .unfold qJ at h;split at h
  .rw[<-(cy (aH h)).1];exact aV (Er ..) hb
  .cases h
theorem Ez{b:cS}(hb:b.length<=255):∀{f i:Nat} {l:List (List Pc)},gn b f i=some l->∀ps∈l,∀p∈ps,iM p
 |0,_,_,h=>by cases h
 |f+1,i,l,h=>by
  rw[gn]at h;split at h
  .rw[<-aH h];intro ps hps;rw[List.mem_singleton.mp hps];intro p hp;cases hp
  .split at h
   .obtain⟨x,hx,e⟩:=aG.mp h;rw[<-e];intro ps hps;rcases aN.mp hps with e|hps
    .rw[e];intro p hp;cases hp
    .exact Ez hb hx ps hps
   .obtain⟨x,hx,h⟩:=aO.mp h;obtain⟨y,hy,e⟩:=aG.mp h;rw[<-e];have ih:=Ez hb hy;cases y with
    |nil=>intro ps hps;cases hps
    |cons t r=>
     intro ps hps;rcases aN.mp hps with e|hps
     .rw[e];intro p hp;rcases aN.mp hp with e|hp
      .rw[e];exact ai0 hb hx
      .exact ih t aB p hp
     .exact ih ps (aA _ hps)
theorem Ea:∀{ls:List (List Pc)} {cs:List eZ},lG ls=some cs->∀c∈cs,c.ps∈ls
 |[],cs,h,c,hc=>by
  have e:[]=cs:=aH h;rw[<-e]at hc;cases hc
 |x::r,cs,h,c,hc=>by
  obtain⟨d,hd,h⟩:=aO.mp h;obtain⟨z9,h_,e⟩:=aG.mp h;rw[<-e]at hc;rcases aN.mp hc with rfl|hc
  .unfold nB at hd;split at hd
   .cases hd
   .obtain⟨k,_,e⟩:=aG.mp hd;rw[<-e];exact aB
  .exact aA _ (Ea h_ c hc)
def Mu{b:cS}{cs:List eZ}(h:iy b=some cs):∀c∈cs,∀p∈c.ps,Named p/\iM p:=by
 unfold iy at h;split at h
 .cases h
 .rename_i h0;obtain⟨ls,mT,h⟩:=aO.mp h;obtain⟨c',ia,h⟩:=aO.mp h;split at h
  .rw[aH h]at ia;intro c hc p hp;have hm:=Ea ia c hc;exact⟨AE mT _ hm p hp,Ez () mT _ hm p hp⟩
  .cases h
def uu(p:Pc)(ps:List Pc):lp (p::ps)=(fR p).toList++lp ps:=by
 show List.filterMap fR (p::ps)=_;rw[aJ];cases fR p<;>rfl
def N9{p:Pc}(hn:Named p):SH.lets (fR p).toList=(gF p).toList:=by
 cases p with
 |sign nm c=>
  rcases hn with e|e|e|e|e<;>(subst e;rfl)
 |word nm n=>
  rcases hn with e|e<;>(subst e;rfl)
 |_=>rfl
def al9{ps:List Pc}(hn:∀p∈ps,Named p):SH.lets (lp ps)=ps.filterMap gF:=by
 induction ps with
 |nil=>rfl
 |cons p ps ih=>
  rw[uu];show SH.lets _=_;have:SH.lets ((fR p).toList++lp ps)=SH.lets (fR p).toList++SH.lets (lp ps):=bV ..;rw[this,ih λp hp=>hn p (aA _ hp),N9 (hn p aB),aJ];cases gF p<;>rfl
def ag8{ps:List Pc}(hn:∀p∈ps,Named p):SH.secs (lp ps)=ps.filterMap kC:=by
 induction ps with
 |nil=>rfl
 |cons p ps ih=>
  rw[uu];have:SH.secs ((fR p).toList++lp ps)=SH.secs (fR p).toList++SH.secs (lp ps):=bV ..;have h1:SH.secs (fR p).toList=(kC p).toList:=by
   have hn:=hn p aB;cases p with
   |sign nm c=>
    rcases hn with e|e|e|e|e<;>(subst e;rfl)
   |word nm n=>
    rcases hn with e|e<;>(subst e;rfl)
   |part l n d=>
    by_cases h:l=115
    .subst h;rfl
    .show SH.secs [Sv68.Piece.clock l n d]=(if l=115 then some d else none).toList;rw[aa h];unfold SH.secs;simp[h]
   |passed l n d=>
    by_cases h:l=115
    .subst h;rfl
    .show SH.secs [Sv68.Piece.passed l n d]=(if l=115 then some d else none).toList;rw[aa h];unfold SH.secs;simp[h]
   |_=>rfl
  rw[this,ih λp hp=>hn p (aA _ hp),h1,aJ];cases kC p<;>rfl
def ah1{ps:List Pc}(hf:∀p∈ps,iM p):∀d∈ps.filterMap kC,d<=3:=by
 intro d hd;obtain⟨p,hp,e⟩:=List.mem_filterMap.mp hd;have h:=hf p hp;cases p with
 |part l n k=>
  have e:(if l=115 then some k else none)=some d:=e;split at e
  .rw[<-aH e];exact h.1
  .cases e
 |passed l n k=>
  have e:(if l=115 then some k else none)=some d:=e;split at e
  .rw[<-aH e];exact h.1
  .cases e
 |_=>cases e
def Z8{ps:List Pc}(hn:∀p∈ps,Named p)(hf:∀p∈ps,iM p):(lp ps).all SH.yF=true:=by
 rw[bg];intro q hq;obtain⟨p,hp,e⟩:=List.mem_filterMap.mp hq;have h:=hf p hp;have hn:=hn p hp;cases p with
 |part l n k=>
  obtain rfl:=aH e;obtain⟨h1,m,h2,h3⟩:=h;show(decide (k<=3)&&_)=true;rw[ak h1,aY];unfold longest at h2
  repeat' split at h2
  all_goals first
   |(cases h2;done)
   |(have:=aH h2;subst_vars;simp;omega)
 |passed l n k=>
  obtain rfl:=aH e;show(decide (k<=3)&&_)=true;rw[ak h.1,aY];rcases h.2.2 with e|e|e<;>(subst e;rfl)
 |sign nm c=>
  rcases hn with z|z|z|z|z<;>(subst z;obtain rfl:=aH e;rfl)
 |word nm n=>
  rcases hn with z|z<;>(subst z;obtain rfl:=aH e;rfl)
 |text b=>obtain rfl:=aH e;rfl
 |exponent c=>obtain rfl:=aH e;rfl
 |colour k=>cases e
 |condition z x=>cases e
def al0{ps:List Pc}(hn:∀p∈ps,Named p):((lp ps).any λp=>p== .half true||p== .half false)=decide (gZ∈ps.map Pc.name):=by
 induction ps with
 |nil=>rfl
 |cons p ps ih=>
  have ih:=ih λp hp=>hn p (aA _ hp);have h1:((fR p).toList.any λp=>p== .half true||p== .half false)=decide (gZ=p.name):=by
   have hn:=hn p aB;cases p with
   |sign nm c=>
    rcases hn with e|e|e|e|e<;>(subst e;rfl)
   |word nm n=>
    rcases hn with e|e
    .subst e;rfl
    .subst e;show((Sv68.Piece.half (n==3)== .half true||Sv68.Piece.half (n==3)== .half false)||false)=true;cases(n==3)<;>rfl
   |_=>rfl
  rw[uu,List.any_append,h1,ih,aX,bC];simp
def uC(T:Nat)(noon:Bool)(pre:cS)(p:Pc)(post:cS):cS:=match fR p with
 |none=>[]
 |some q=>SH.AW T noon pre q post
def Lw(T:Nat)(noon:Bool)(pre:cS){p:Pc}{ps:List Pc}(hp:Named p)(hn:∀p∈ps,Named p):SH.jL T noon pre (lp (p::ps))=uC T noon pre p (ps.filterMap gF)++SH.jL T noon (pre++(gF p).toList) (lp ps):=by
 rw[uu,<-al9 hn,<-N9 hp];unfold uC;cases fR p with
 |none=>
  show SH.jL T noon pre (lp ps)=[]++SH.jL T noon (pre++[]) (lp ps);rw[aU];rfl
 |some q=>rfl
def af9{ps:List Pc}(hn:∀p∈ps,Named p)(z:Nat):SH.yR (lp ps) z=sU (ps.filterMap kC) z:=by
 unfold SH.yR sU;rw[ag8 hn]
def KC{z:Str}{b:cS}(h:eX z=bi b)(hz:z.length<=20):b.length<=20:=by
 have e:=cI List.length h;rw[p_]at e;unfold eX at e;rw[az,bR]at e;have:z.cps.size<=20:=hz;lia
def KP(b:cS)(n:Nat):(SH.uG b n).length<=b.length:=by
 unfold SH.uG;split
 .rw[aW];lia
 .split
  .exact aI _
  .rw[aW];lia
def oB{n k:Nat}(hn:n<=9)(h:k<10^90):(Sv68.padded n k).length<=100:=by
 rw[oh];have:=j7 (k:=90) () h;lia
def LM(d t:Nat):(SH.kr d t).length<=100:=by
 unfold SH.kr;split
 .decide
 .rw[aK,aW,oh];have:=j7 (k:=3) () (show t%1000<10^3 from Nat.mod_lt _ ());lia
def aa7{l:UInt8}{n d t:Nat}{noon:Bool}(hn:n<=9)(ht:t/86400000<=2958464):(SH.oH l n d t noon).length<=300:=by
 have vj:∀{x:Nat},x<10^60->x<10^90:=λh=>bh h ();have sm:∀{x:Nat},x<100->x<10^90:=λh=>bh h ();obtain⟨y1,m1,d1⟩:=Kh (g:=t/86400000) ht;unfold SH.oH;split
 .split
  .exact aV (oB hn (sm ())) ()
  .exact aV (oB hn (sm ())) ()
 split
 .rw[aC];have:=oB (k:=t/1000%60) hn (sm ());have:=LM d t;lia
 split
 .split
  .exact aV (oB () (sm ())) ()
  .exact aV (oB () (vj y1)) ()
 split
 .split
  .exact aV (oB hn (vj d1)) ()
  .obtain⟨w1,w2⟩:=M5 ⟨t/86400000%7,Nat.mod_lt _ ()⟩;have:=KC w1 w2;exact aV (KP _ _) (aV this ())
 .split
  .exact aV (oB hn (vj m1.2.2)) ()
  .obtain⟨w1,w2⟩:=N6 ⟨(Sv68.dateOf (t/86400000)).2.1-1,m1.1⟩;have:=KC w1 w2;exact aV (KP _ _) (aV this ())
def aa5{l:UInt8}{n d t:Nat}(hn:n<=9)(ht:t<10^60):(SH.uF l n d t).length<=300:=by
 have vj:∀m,t/m<10^90:=λm=>bB (Nat.div_le_self _ _) (bh ht ());unfold SH.uF;split
 .exact aV (oB hn (vj _)) ()
 split
 .exact aV (oB hn (vj _)) ()
 .rw[aC];have:=oB hn (vj 1000);have:=LM d t;lia
def KL{T:Nat}{noon:Bool}{pre post:cS}{p:Pc}(hn:Named p)(hf:iM p)(ht:T/86400000<=2958464):(uC T noon pre p post).length<=300:=by
 have h60:T<10^60:=bh (show T<10^20 by lia) ();unfold uC;cases p with
 |text b=>exact aV hf ()
 |sign nm c=>
  rcases hn with e|e|e|e|e<;>(subst e;exact aP _)
 |exponent c=>exact aP _
 |word nm n=>
  rcases hn with e|e<;>subst e
  .exact aP _
  .show(SH.qw (n==3) T).length<=300;unfold SH.qw;split<;>(split<;>decide)
 |part l n d=>
  obtain⟨_,m,h2,h3⟩:=hf;have hm:m<=9:=by
   unfold longest at h2
   repeat' split at h2
   all_goals first
    |(cases h2;done)
    |(have:=aH h2;lia)
  show(if SH.oJ pre l n post=true then _ else _:cS).length<=300;split
  .exact aV (oB () (bh (show T/60000%60<100 by lia) ())) ()
  .exact aa7 () ht
 |passed l n d=>exact aa5 hf.2.1 h60
 |colour k=>exact aP _
 |condition z x=>exact aP _
def MA{p:Pc}(hn:Named p):(∃b,p= .text b)\/(∃n,p= .word gZ n)\/(∃l n d,p= .passed l n d)\/(∃l n d,p= .part l n d)\/((p.name≠iD/\p.name≠gZ/\p.name≠jA/\p.name≠iR)/\∀T noon pre post,uC T noon pre p post=[]):=by
 cases p with
 |text b=>exact .inl ⟨b,rfl⟩
 |part l n d=>exact .inr (.inr (.inr (.inl ⟨l,n,d,rfl⟩)))
 |passed l n d=>exact .inr (.inr (.inl ⟨l,n,d,rfl⟩))
 |sign nm c=>
  rcases hn with e|e|e|e|e<;>(subst e;exact .inr (.inr (.inr (.inr ⟨by dsimp only[Pc.name];decide+kernel,λ_ _ _ _=>rfl⟩))))
 |word nm n=>
  rcases hn with e|e<;>subst e
  .exact .inr (.inr (.inr (.inr ⟨by show fK≠_/\fK≠_/\fK≠_/\fK≠_;decide+kernel,λ_ _ _ _=>rfl⟩)))
  .exact .inr (.inl ⟨n,rfl⟩)
 |exponent c=>exact .inr (.inr (.inr (.inr ⟨by show fc≠_/\fc≠_/\fc≠_/\fc≠_;decide+kernel,λ_ _ _ _=>rfl⟩)))
 |colour k=>exact .inr (.inr (.inr (.inr ⟨by show gr≠_/\gr≠_/\gr≠_/\gr≠_;decide+kernel,λ_ _ _ _=>rfl⟩)))
 |condition z x=>exact .inr (.inr (.inr (.inr ⟨by show gq≠_/\gq≠_/\gq≠_/\gq≠_;decide+kernel,λ_ _ _ _=>rfl⟩)))
def kH{x y:Str}(h:x=y):V.bl (decide (V.str x=V.str y))=V.bl true:=by rw[h,ak rfl]
def fY{x y:Str}(h:x≠y):V.bl (decide (V.str x=V.str y))=V.bl false:=by rw[ao λz=>h (V.str.inj z)]
def jK(a b:cS):bv (a++b)=bv a++bv b:=by
 unfold bv;rw[Lc,bf]
def VD{α β:Type}{f:α->Option β}{l:List α}{i:Nat}{x:α}(h:l[i]? =some x):(l.take (i+1)).filterMap f=(l.take i).filterMap f++(f x).toList:=by
 rw[List.take_succ,h,bV];congr 1
section
noncomputable def tu(ps:List Pc)(z:Int):Option cS:=if z<0 then none else if 2958464<sU (ps.filterMap kC) z.toNat/86400000 then none else some (SH.jL (sU (ps.filterMap kC) z.toNat) (decide (gZ∈ps.map Pc.name)) [] (lp ps))
def as5{ps:List Pc}(hn:∀p∈ps,Named p)(hf:∀p∈ps,iM p)(z:Int):Sv68.dayOut (lp ps) z=tu ps z:=by
 rw[SH.ar5 _ _ (Z8 hn hf)];unfold SH.EO tu;rw[af9 hn,al0 hn];rfl
abbrev QO:Stmt:=top 154
def Pd:dP ["pieces","number","time","has_noon","codes","at","piece"] ["pieces","number"] (c9 QO):=dW
inductive OC(K:b6)(C:Cs)(CN:Addr)(vs:List V)(H:Hp)(Q:VK)(E:XK):Prop|m(a as ps H0)(z:Int)(_:vs=[.ref a,.int z])(_:cU K H a (as.map V.ref))(_:as.length<=300)(_:Ps C H0 H as ps)(_:(∀p∈ps,Named p))(_:(∀p∈ps,iM p))(_:(∀H',cR H H'->tu ps z=none->E (.ref CN) none H'))(_:∀o,tu ps z=some o->jE H Q o)
def aw3(T:TX P w K mg)(TP:lB K C.piece)(TQ:sy K C.part)(Jv:OwnCls "CannotShow" CN bm newId mg base)(FB:ExcBaseFacts B newId lE bm)
  (W5:Own P w K mg base cY 2 "round_time" ["pieces","number"] (OH K C))(XS:Own P w K mg base cY 2 "show_noon" ["size","time"] Ni)(Wo:Own P w K mg base cY 4 "show_passed" ["part","time"] (Nd C.part))(W8:Own P w K mg base cY 1 "is_minutes" ["pieces","at"] (OS K C))(iz:Own P w K mg base cY 2 "digits_of" ["number","least"] oG)(XR:Own P w K mg base cY 4 "show_part" ["part","time","has_noon"] (Oz C.part))
  (F:dM K "show_time" "show_time" QO f fd):dJ P w K mg base (fO P w CN) 5 f fd ["pieces","number"] (OC K C CN):=by
 refine F.oX Pd λc8 A outer s H vs Q E hr h xk hp=>?_;obtain⟨a,as,ps,H0,z,rfl,hS,hlen,hP,hN,hF,k0,k1⟩:=h;have nd:=Pd.nd;refine⟨_,(cW (dO (dj jg (pv 1) cZ) (cX (mZ Jv FB rfl xk rfl (cT eH))) dX)
  (cW (dN (i:=2) nd (dF W5 hr (c_ (pv 0) (cT (pv 1)))))
  (cW (dO (dj iV (dm mw (pv 2) (dG T.ED)) (dG T.Yv)) (cX (mZ Jv FB rfl xk rfl (cT eH))) dX)
  (cW (dN (i:=3) nd (fQ lz eH (nk rfl nd (gR (pv 0)) (iA (N:=["pieces","number","time","has_noon","codes","at","piece"]) (sc:=c9 (top 154)) (own:=[("piece",6)]) ()) (λ_ _ _ _ _=>fF (i:=6) nd (.inr rfl)) (λ_ _ _ _ _=>mq) (λ_ _ _ _ _=>(show PE _ _ (gT K _ "name")from dH (pv 6) rfl))) (by with_unfolding_all rfl)))
  (cW (dN (i:=4) nd (fJ ir))
  (cW (kN hp rfl (vP rfl T.t_ (cT (pv 0))) (uD rfl (lA (fF (i:=5) nd) (lA (fF (i:=6) nd) ux))) (cX (dO (dj dU (dH (pv 6) rfl) eH) (cX (iO (gk b7 cP cQ qY (pv 4) (cT (dH (pv 6) rfl))))) (cX (dO (dj dU (dH (pv 6) rfl) eH) (cX (iO (gk b7 cP cQ qY (pv 4) (cT (dF XS hr (c_ (dH (pv 6) rfl) (cT (pv 2)))))))) (cX (dO (dj dU (dH (pv 6) rfl) eH) (cX (iO (gk b7 cP cQ qY (pv 4) (cT (dF Wo hr (c_ (dH (pv 6) rfl) (cT (pv 2)))))))) (cX (dO (PW.pt (nh (dj dU (dH (pv 6) rfl) eH) (m6 (iH (dF W8 hr (c_ (pv 0) (cT (pv 5)))))))) (cX (iO (gk b7 cP cQ qY (pv 4) (cT (dF iz hr (c_ (dm kO (dm mw (pv 2) (dG T.JX)) cZ) (cT (dH (dH (pv 6) rfl) rfl)))))))) (cX (dO (dj dU (dH (pv 6) rfl) eH) (cX (iO (gk b7 cP cQ qY (pv 4) (cT (dF XR hr (c_ (dH (pv 6) rfl) (c_ (pv 2) (cT (pv 3))))))))) dX)))))))))))
  (cX (dh (pv 4))))))))),?_⟩
 unfold tu at k0 k1;rcases Int.lt_or_le z 0 with hz|hz
 .rw[ah hz]at k0;exact⟨_,_,rfl,rfl,true,cI V.bl (ak hz),dZ ⟨(),k0 H (cR.refl H) rfl⟩⟩
 rw[aa ()]at k0 k1;obtain⟨z,rfl⟩:=Int.eq_ofNat_of_zero_le hz;rw[show((z:Int)).toNat=z from rfl]at k0 k1;refine⟨_,_,rfl,rfl,false,cI V.bl (ao ()),dB ⟨a,as,ps,H0,z,rfl,hS,hlen,hP,hN,ah1 hF,λH1 s1=>?_⟩⟩;generalize sU (ps.filterMap kC) z=t at*;rcases Nat.lt_or_ge 2958464 (t/86400000)with ht|ht
 .rw[ah ht]at k0;exact⟨_,_,rfl,rfl,⟨(),()⟩,_,_,rfl,rfl,true,cI V.bl (ak ()),dZ ⟨(),k0 H1 s1 rfl⟩⟩
 rw[aa ()]at k1;have k1:=k1 _ rfl;refine⟨_,_,rfl,rfl,⟨(),()⟩,_,_,rfl,rfl,false,cI V.bl (ao ()),dB ?_⟩;clear k0;have hl:=hP.length;refine⟨a,rfl,⟨_,s1.seq hS⟩,λD1 gP=>i6 (λx=>some (dQ H "name" x)) (s1.seq hS) gP (by rw[az];lia) ?_ ?_⟩
 .intro x H' hx sm Q1 Q2 h1 h2;obtain⟨b,p,e,rfl,hm,hp⟩:=hP.mem hx;obtain⟨v,dx,hb,hv,f1,f2⟩:=hp.fields;rw[f1]at h1;exact⟨rfl,b,C.piece,dx,_,_,rfl,(s1.trans sm) _ _ hb,TP.cl,TP.fz,fu,h1 _ rfl⟩
 rw[DW hP];have s2:=cR.upd (o:=.lst (nv (ps.map Pc.name))) gP;generalize zS:upd H1 D1 (.lst (nv (ps.map Pc.name)))=G2 at*;have pK:cU K G2 D1 (nv (ps.map Pc.name)):=cU.of (by rw[<-zS,cV]);refine⟨D1,_,rfl,.inl pK,rfl,gY _,?_⟩;show qC _ _ _ [_,_,_,some (V.bl (inV (.str "noon") (nv (ps.map Pc.name)))),_,_,_] G2;rw[jM];generalize decide (gZ∈ps.map Pc.name)=noon at*;have gV:=s1.trans s2;refine⟨aP _,λD hD=>?_⟩;have tU:H D=none:=gV.free hD;refine⟨a,_,rfl,(gV.trans (cR.upd hD)).seq hS,yd (K:=K) (a:=a) (xs:=as.map V.ref) (λi σ H'=>∃(done:cS) (v5 v6:Option V),σ=[some (.ref a),some (.int (z:Nat)),some (.int (t:Nat)),some (.bl noon),some (.ref D),v5,v6]/\cR H H'/\H' D=some (.lst (bv done))/\done.length<=300*i/\SH.jL t noon [] (lp ps)=done++SH.jL t noon ((ps.take i).filterMap gF) (lp (ps.drop i)))
  ⟨[],none,none,rfl,gV.trans (cR.upd hD),cV,aI _,rfl⟩ (λi σ H' _ ⟨_,_,_,_,sm,_⟩=>sm.seq hS) ?_ ?_⟩
 .rintro i x σ H' T' hx ⟨done,v5,v6,rfl,sm,gC,n9,eS⟩ hT;rw[aR]at hx;obtain⟨b,hb,rfl⟩:=aG.mp hx;have sT:cR H' (upd H' T' (.tup [.int (i:Nat),.ref b])):=cR.upd hT;refine⟨T',_,rfl,e_.of cV,rfl,_,_,rfl,_,_,rfl,rfl,?_⟩;have kY:=sm.trans sT;have uK:=sT _ _ gC;generalize upd H' T' (.tup [.int (i:Nat),.ref b])=H' at*;obtain⟨p,hp,e,rO⟩:=A2.get (hP.same kY) hb;have gv:i<ps.length:=(aD.mp hp).1;have hm:p∈ps:=bx hp;have u_:=hN p hm;have rS:=hF p hm;obtain⟨v,dx,fU,hv,f1,f2⟩:=rO.fields;rw[gh hp,Lw _ _ _ u_ (λq hq=>hN q (List.mem_of_mem_drop hq))]at eS;have aH7:=KL (T:=t) (noon:=noon) (pre:=(ps.take i).filterMap gF) (post:=(ps.drop (i+1)).filterMap gF) u_ rS ();have fin:∀{H2:Hp},cR H H2->H2 D=some (.lst (bv (done++uC t noon ((ps.take i).filterMap gF) p ((ps.drop (i+1)).filterMap gF))))->∃(done:cS) (v5 v6:Option V),[some (V.ref a),some (.int (z:Nat)),some (.int (t:Nat)),some (.bl noon),some (.ref D),some (.int (i:Nat)),some (.ref b)]=[some (.ref a),some (.int (z:Nat)),some (.int (t:Nat)),some (.bl noon),some (.ref D),v5,v6]/\cR H H2/\H2 D=some (.lst (bv done))/\done.length<=300*(i+1)/\SH.jL t noon [] (lp ps)=done++SH.jL t noon ((ps.take (i+1)).filterMap gF) (lp (ps.drop (i+1))):=by
   intro H2 s2 h2;refine⟨_,_,_,rfl,s2,h2,by rw[aC];lia,?_⟩;rw[eS,VD hp,bw]
  have ext:∀{H2:Hp} {q:Addr} {o:cS},cR H' H2->o=uC t noon ((ps.take i).filterMap gF) p ((ps.drop (i+1)).filterMap gF)->H2 q=some (.lst (bv o))->Mv (.ref D) [.ref q] H2 λ_ H3=>∃(done:cS) (v5 v6:Option V),[some (V.ref a),some (.int (z:Nat)),some (.int (t:Nat)),some (.bl noon),some (.ref D),some (.int (i:Nat)),some (.ref b)]=[some (.ref a),some (.int (z:Nat)),some (.int (t:Nat)),some (.bl noon),some (.ref D),v5,v6]/\cR H H3/\H3 D=some (.lst (bv done))/\done.length<=300*(i+1)/\SH.jL t noon [] (lp ps)=done++SH.jL t noon ((ps.take (i+1)).filterMap gF) (lp (ps.drop (i+1))):=by
   intro H2 q o s2 eo hq;rw[<-eo]at fin aH7;refine⟨D,q,_,_,rfl,rfl,s2 _ _ uK,hq,(by rw[eB,eB];show _<=2^24;lia),fin ((kY.trans s2).off tU) (by rw[cV,jK])⟩
  have nmR:∀x:Str,True:=λ_=>trivial;rcases MA u_ with⟨bb,rfl⟩|⟨n,rfl⟩|⟨l,n,d,rfl⟩|⟨l,n,d,rfl⟩|⟨⟨n1,n2,n3,n4⟩,aN0⟩
  .obtain⟨q,rfl,_,hq⟩:=hv;exact⟨b,C.piece,dx,_,_,rfl,fU,TP.cl,TP.fz,fu,rfl,true,kH rfl,dZ ⟨.inl ⟨rfl,_,cU.of uK⟩,b,C.piece,dx,_,_,rfl,fU,TP.cl,TP.jz,jy,ext (cR.refl _) rfl hq⟩⟩
  .have hv:v= .int n:=hv;subst hv;refine⟨b,C.piece,dx,_,_,rfl,fU,TP.cl,TP.fz,fu,rfl,false,fY (by show gZ≠iD;decide+kernel),dB ⟨b,C.piece,dx,_,_,rfl,fU,TP.cl,TP.fz,fu,rfl,true,kH rfl,dZ ⟨.inl ⟨rfl,_,cU.of uK⟩,b,C.piece,dx,_,_,rfl,fU,TP.cl,TP.jz,jy,n,t,rfl,λq H2 s2 hq=>ext s2 ?_ hq⟩⟩⟩;show _=SH.qw (n==3) t;rcases rS rfl with e|e<;>(rw[e];rfl)
  .obtain⟨q,rfl,_,hq⟩:=hv;exact⟨b,C.piece,dx,_,_,rfl,fU,TP.cl,TP.fz,fu,rfl,false,fY (by show jA≠iD;decide+kernel),dB ⟨b,C.piece,dx,_,_,rfl,fU,TP.cl,TP.fz,fu,rfl,false,fY (by show jA≠gZ;decide+kernel),dB ⟨b,C.piece,dx,_,_,rfl,fU,TP.cl,TP.fz,fu,rfl,true,kH rfl,dZ ⟨.inl ⟨rfl,_,cU.of uK⟩,b,C.piece,dx,_,_,rfl,fU,TP.cl,TP.jz,jy,q,l,n,d,t,rfl,hq,rS.2.1,bh (show t<10^20 by lia) (),rS.1,λq H2 s2 hq=>ext s2 rfl hq⟩⟩⟩⟩
  .obtain⟨q,rfl,_,dq,hq⟩:=hv;obtain⟨qN,m,pO,hnm⟩:=rS;have hm9:m<=9:=by
    unfold longest at pO
    repeat' split at pO
    all_goals first
     |(cases pO;done)
     |(have:=aH pO;lia)
   refine⟨b,C.piece,dx,_,_,rfl,fU,TP.cl,TP.fz,fu,rfl,false,fY (by show iR≠iD;decide+kernel),dB ⟨b,C.piece,dx,_,_,rfl,fU,TP.cl,TP.fz,fu,rfl,false,fY (by show iR≠gZ;decide+kernel),dB ⟨b,C.piece,dx,_,_,rfl,fU,TP.cl,TP.fz,fu,rfl,false,fY (by show iR≠jA;decide+kernel),dB ⟨b,C.piece,dx,_,_,rfl,fU,TP.cl,TP.fz,fu,rfl,true,kH rfl,dZ ⟨a,as,ps,H0,i,l,n,d,rfl,kY.seq hS,hlen,hP.same kY,hN,hp,λH2 s2=>⟨_,rfl,?_⟩⟩⟩⟩⟩⟩;have GF:=s2 _ _ fU;have pK:=s2 _ _ hq;cases zg:SH.oJ ((ps.take i).filterMap gF) l n ((ps.drop (i+1)).filterMap gF)with
   |true=>
    refine dZ ⟨.inl ⟨rfl,_,cU.of (s2 _ _ uK)⟩,_,_,rfl,rfl,⟨(),()⟩,_,_,rfl,rfl,(by show(0:Int)<_;decide),b,C.piece,dx,_,_,rfl,GF,TP.cl,TP.jz,jy,q,C.part,dq,_,_,rfl,pK,TQ.cl,TQ.kj,kK,t/60000%60,n,?_,bh (show t/60000%60<100 by lia) (),(),λq3 pJ=>ext (s2.trans (cR.upd pJ)) ?_ cV⟩
    .rw[show((t/60000%60:Nat):Int)=(t:Int)/60000%60 by lia];rfl
    .show _=(if SH.oJ ((ps.take i).filterMap gF) l n ((ps.drop (i+1)).filterMap gF)=true then _ else _);rw[ah zg]
   |false=>
    refine dB ⟨b,C.piece,dx,_,_,rfl,GF,TP.cl,TP.fz,fu,rfl,true,kH rfl,dZ ⟨.inl ⟨rfl,_,cU.of (s2 _ _ uK)⟩,b,C.piece,dx,_,_,rfl,GF,TP.cl,TP.jz,jy,q,l,n,d,t,noon,rfl,⟨dq,pK⟩,(),(),qN,λq3 H3 s3 pJ=>ext (s2.trans s3) ?_ pJ⟩⟩;show _=(if SH.oJ ((ps.take i).filterMap gF) l n ((ps.drop (i+1)).filterMap gF)=true then _ else _);rw[aa (by rw[zg];decide)]
  .rw[aN0,aU]at fin;refine⟨b,C.piece,dx,_,_,rfl,fU,TP.cl,TP.fz,fu,rfl,false,fY n1,dB ⟨b,C.piece,dx,_,_,rfl,fU,TP.cl,TP.fz,fu,rfl,false,fY n2,dB ⟨b,C.piece,dx,_,_,rfl,fU,TP.cl,TP.fz,fu,rfl,false,fY n3,dB ⟨b,C.piece,dx,_,_,rfl,fU,TP.cl,TP.fz,fu,rfl,false,fY n4,dB ⟨b,C.piece,dx,_,_,rfl,fU,TP.cl,TP.fz,fu,rfl,false,fY n4,dB (fin kY uK)⟩⟩⟩⟩⟩
 .rintro σ H' ⟨done,v5,v6,rfl,sm,gC,n9,eS⟩;rw[az,hl,List.drop_length]at eS;have:SH.jL t noon [] (lp ps)=done:=by
   rw[eS];exact aU _
  rw[this]at k1;exact(k1 D H' sm gC)
end
theorem E7{α:Type}[DecidableEq α]{x:α}:∀{l:List α},x∈l->∃u v,l=u++x::v/\¬x∈v
 |[],h=>by cases h
 |a::l,h=>by
  by_cases hl:x∈l
  .obtain⟨u,v,e,hv⟩:=E7 hl;exact⟨a::u,v,by rw[e];rfl,hv⟩
  .rcases aN.mp h with rfl|h
   .exact⟨[],l,rfl,hl⟩
   .exact(hl h).elim
section
abbrev Q4:Stmt:=top 131
def Pq:dP ["names","at","name"] ["names"] (c9 Q4):=dW
inductive F5(K:b6)(vs:List V)(H:Hp)(Q:VK)(z3:XK):Prop|m(a ns)(u v:List Str)(_:vs=[.ref a])(_:cU K H a (nv ns))(_:ns.length<=300)(_:ns=u++dD::v)(_:¬dD∈v)(_:∀H',cR H H'->Q (.int (u.length:Nat)) H')
def ax6(T:TX P w K mg)(F:dM K "last_place" "last_place" Q4 f fd):dJ P w K mg base cY 1 f fd ["names"] (F5 K):=by
 refine F.oK Pq λc8 A outer s H vs Q E hr h=>?_;obtain⟨a,ns,u,v,rfl,hS,hlen,he,hv,k⟩:=h;have nd:=Pq.nd;refine⟨_,(cX (dh (eN (Og rfl) rfl T.wA () (cT (nk rfl nd (vP rfl T.t_ (cT (pv 0))) (iA (N:=["names","at","name"]) (sc:=c9 (top 131)) (own:=[("at",1),("name",2)]) ()) (λ_ _ _ _ _=>(show PG _ _ (RN K 2 _)from uD rfl (lA (fF (i:=1) nd (.inr rfl)) (lA (fF (i:=2) nd (.inr rfl)) ux)))) (λ_ _ _ _ _=>(mj (dj dU (pv 2) eH))) (λ_ _ _ _ _=>(pv 1))))))),?_⟩;refine⟨a,_,rfl,hS,λD hD=>?_⟩;refine am1 (K:=K) (a:=a) (xs:=nv ns) (λi H'=>∃js:List Int,cR H H'/\H' D=some (.lst (js.map V.int))/\js.length<=i/\∀j:Int,j∈js↔∃n:Nat,j=n/\n<i/\ns[n]? =some dD) ?_ ?_ ?_ ?_
 .exact⟨[],cR.upd hD,cV,aI _,λj=>⟨λh=>(nomatch h),λ⟨n,_,h,_⟩=>cJ h (Nat.not_lt_zero n)⟩⟩
 .rintro i H' _ ⟨js,sm,_⟩;exact sm.seq hS
 .rintro i x H' T' hx ⟨js,sm,gC,n6,hj⟩ hT;rw[aR]at hx;obtain⟨y,hy,rfl⟩:=aG.mp hx;have gv:i<ns.length:=(aD.mp hy).1;have sT:cR H' (upd H' T' (.tup [.int (i:Nat),.str y])):=cR.upd hT;refine⟨T',_,rfl,e_.of cV,rfl,_,_,rfl,_,_,rfl,rfl,rfl,rfl,_,rfl,dw (λq=>?_) (λq=>?_)⟩
  .have q1:y=dD:=V.str.inj (aj q);refine⟨_,sT _ _ gC,(by rw[az];show _<2^24;lia),js++[(i:Int)],(sm.trans sT).off hD,by rw[cV,bf];rfl,by rw[aC];exact Nat.succ_le_succ n6,λj=>?_⟩;rw[List.mem_append,hj,List.mem_singleton];constructor
   .rintro(⟨n,e,h1,h2⟩|e)
    .exact⟨n,e,(),h2⟩
    .exact⟨i,e,(),by rw[hy,q1]⟩
   .rintro⟨n,e,h1,h2⟩
    by_cases z:n=i
    .exact .inr (by rw[e,z])
    .exact .inl ⟨n,e,(),h2⟩
  .refine⟨js,sm.trans sT,sT _ _ gC,(),λj=>?_⟩;rw[hj];constructor
   .rintro⟨n,e,h1,h2⟩;exact⟨n,e,(),h2⟩
   .rintro⟨n,e,h1,h2⟩;refine⟨n,e,?_,h2⟩
    by_cases z:n=i
    .rw[z,hy]at h2;exact cJ (ak (by rw[aH h2])) q
    .lia
 .rintro H' ⟨js,sm,gC,n6,hj⟩;have HP:(u.length:Int)∈js:=(hj _).mpr ⟨u.length,rfl,by rw[az,he,aC,aK];lia,by rw[he,bN (aI _),Nat.sub_self];rfl⟩;refine⟨D,js,rfl,cU.of gC,List.length_pos_of_mem HP,λm hm Gy=>?_⟩;have h1:=Gy _ HP;obtain⟨n,rfl,h2,h3⟩:=(hj m).mp hm;have h4:n<=u.length:=by
   by_cases z:n<=u.length
   .exact z
   .exfalso;rw[he,bN (),show n-u.length=(n-u.length-1)+1 by lia,List.getElem?_cons_succ]at h3;exact hv (bx h3)
  rw[show n=u.length by lia];exact k H' sm
def lO(ns:List Str):Bool:=if dD∈ns then decide (gu∈(ns.dropWhile λx=>!decide (x=dD)).reverse.dropWhile λx=>!decide (x=dD))else false
def jQ(ns:List Str):Nat:=if dD∈ns then(ns.reverse.takeWhile λx=>!decide (x=dD)).count gu else 0
abbrev Rl:Stmt:=top 130
def aF7:dP ["names"] ["names"] (c9 Rl):=dW
inductive O6(K:b6)(vs:List V)(H:Hp)(Q:VK)(z3:XK):Prop|m(a ns)(_:vs=[.ref a])(_:cU K H a (nv ns))(_:ns.length<=300)(_:∀H',cR H H'->Q (.int (jQ ns:Nat)) H')
def ao9{u v:List Str}(hv:¬dD∈v):jQ (u++dD::v)=(dD::v).count gu:=by
 unfold jQ;rw[ah (bD _ aB),cB,List.reverse_cons,bw];rw[List.takeWhile_append_of_pos (λx hx=>by
  have:x≠dD:=λe=>hv (by rw[<-e];exact List.mem_reverse.mp hx);rw[ao this];rfl),List.singleton_append,aF,aa (),aU,List.count_reverse,List.count_cons,aa ()]
 rfl
def az4(T:TX P w K mg)(DL:Own P w K mg base cY 1 "last_place" ["names"] (F5 K))(F:dM K "count_commas_behind" "count_commas_behind" Rl f fd):dJ P w K mg base cY 2 f fd ["names"] (O6 K):=by
 refine F.oK aF7 λc8 A outer s H vs Q E hr h=>?_;obtain⟨a,ns,rfl,hS,hlen,k⟩:=h;refine⟨_,(cX (dh (gD (dj lz eH (pv 0) (by with_unfolding_all rfl)) (gk b7 cN cO qX (fP fX (pv 0) (eY (dF DL hr (cT (pv 0)))) gQ) (cT eH)) cZ))),?_⟩;refine⟨a,_,rfl,.inl hS,rfl,gY _,_,rfl,?_⟩;show if inV (.str "place") (nv ns)=true then _ else _;rw[jM]
 by_cases hm:dD∈ns
 .obtain⟨u,v,he,hv⟩:=E7 hm;rw[ak hm];refine dZ ⟨a,ns,u,v,rfl,hS,hlen,he,hv,λH1 s1=>⟨(u.length:Int),rfl,a,_,rfl,s1.seq hS,?_⟩⟩;have ec:fH (nv ns) (some (u.length:Int)) none=nv (dD::v):=by
   rw[q_,<-bH,he,List.drop_left]
  rw[ec];intro p hp;have kk:=k _ (s1.trans (cR.upd (o:=.lst (nv (dD::v))) hp));rw[he,ao9 hv]at kk;refine⟨.inl ⟨rfl,_,cU.of cV⟩,p,_,_,rfl,rfl,cU.of cV,rfl,gY _,?_⟩;rw[ue];exact kk
 .rw[ao hm];have kk:=k H (cR.refl H);unfold jQ at kk;rw[aa hm]at kk;exact dB kk
def ap1{ns u v:List Str}{j:Nat}(hm:dD∈ns)(he:ns=u++dD::v)(hv:¬dD∈v)(i3:ns.takeWhile (λy=>!decide (y=dD))=ns.take j)(hj:j<=u.length):lO ns=decide (gu∈(ns.drop j).take (u.length-j)):=by
 unfold lO;have nf:∀{l:List Str},¬dD∈l->∀x∈l,(!decide (x=dD))=true:=λhl x hx=>by
  have:x≠dD:=λe=>hl (by rw[<-e];exact hx);rw[ao this];rfl
 have hd:ns.drop j=u.drop j++dD::v:=by
  rw[he,List.drop_append_of_le_length hj]
 have e1:ns.dropWhile (λx=>!decide (x=dD))=ns.drop j:=by
  rw[<-vU,i3,aW];congr 1;have:=cI List.length he;rw[aC,aK]at this;lia
 have e2:(ns.drop j).take (u.length-j)=u.drop j:=by
  rw[hd,List.take_left' (by rw[aQ])]
 rw[ah hm,e1,e2,hd,cB,List.reverse_cons,bw,List.dropWhile_append_of_pos (λx hx=>nf hv x (List.mem_reverse.mp hx)),List.singleton_append,bU,aa ()];refine au.mpr ?_;rw[aN,List.mem_reverse];exact⟨λh=>h.elim (λh=>cJ h ()) id,.inr⟩
abbrev Q9:Stmt:=top 129
def Px:dP ["names","first"] ["names"] (c9 Q9):=dW
inductive OT(K:b6)(vs:List V)(H:Hp)(Q:VK)(z3:XK):Prop|m(a ns)(_:vs=[.ref a])(_:cU K H a (nv ns))(_:ns.length<=300)(_:∀H',cR H H'->Q (.bl (lO ns)) H')
def ay1(T:TX P w K mg)(DL:Own P w K mg base cY 1 "last_place" ["names"] (F5 K))(F:dM K "is_comma_between" "is_comma_between" Q9 f fd):dJ P w K mg base cY 2 f fd ["names"] (OT K):=by
 refine F.oK Px λc8 A outer s H vs Q E hr h=>?_;obtain⟨a,ns,rfl,hS,hlen,k⟩:=h;have nd:=Px.nd;refine⟨_,(cW (dO (dj qV eH (pv 0) (by with_unfolding_all rfl)) (cX (dh mG)) dX)
  (cW (dN (i:=1) nd (gk b7 PySem.F.slot_list_index PySem.F.type_list_index yc (pv 0) (cT eH)))
  (cX (dh (fQ lz eH (fP fX (pv 0) (eY (pv 1)) (eY (dF DL hr (cT (pv 0))))) (by with_unfolding_all rfl)))))),?_⟩
 refine⟨a,_,rfl,.inl hS,rfl,gY _,_,rfl,?_⟩;show if(!inV (.str "place") (nv ns))=true then _ else _;rw[jM]
 by_cases hm:dD∈ns
 .rw[ak hm];obtain⟨j,i1,i2,i3⟩:=yy hm;obtain⟨g1,g2,g3⟩:=ya i1 i2;obtain⟨u,v,he,hv⟩:=E7 hm;refine dB ⟨.inl ⟨rfl,_,hS⟩,a,_,_,j,_,rfl,rfl,hS,rfl,gY _,g1,g2,g3,?_⟩;refine⟨(j:Int),rfl,a,ns,u,v,rfl,hS,hlen,he,hv,λH1 s1=>⟨(u.length:Int),rfl,a,_,rfl,s1.seq hS,?_⟩⟩;have n6:=(aD.mp i1).1;have ec:fH (nv ns) (some (j:Int)) (some (u.length:Int))=nv ((ns.drop j).take (u.length-j)):=by
   rw[ym,<-bH,<-bI]
  rw[ec];intro p hp;have kk:=k _ (s1.trans (cR.upd (o:=.lst (nv ((ns.drop j).take (u.length-j)))) hp));refine⟨p,_,rfl,.inl (cU.of cV),rfl,gY _,?_⟩;show Q (.bl (inV (.str "comma") _)) _;rw[jM];have hj:j<=u.length:=by
   by_cases z:j<=u.length
   .exact z
   .exact cJ rfl (i2 u.length dD () (by rw[he,bN (aI _),Nat.sub_self];rfl))
  rw[ap1 hm he hv i3 hj]at kk;exact kk
 .rw[ao hm];have kk:=k H (cR.refl H);unfold lO at kk;rw[aa hm]at kk;exact dZ kk
end
abbrev Cells(H:Hp)(qs:List Addr)(cs:List cS):Prop:=A2 (λq c=>H q=some (.lst (bv c))) qs cs
def Cells.same{H H':Hp}{qs:List Addr}{cs:List cS}(s:cR H H')(h:Cells H qs cs):Cells H' qs cs:=A2.imp (λ_ _ z=>s _ _ z) h
def Hj(H:Hp)(Q:VK)(b:cS):Prop:=∀p H',cR H H'->H p=none->H' p=some (.lst (bv b))->Q (.ref p) H'
def Hj.new{H:Hp}{Q:VK}{b:cS}(k:Hj H Q b):∀p,H p=none->Q (.ref p) (upd H p (.lst (bv b))):=λp hp=>k p _ (cR.upd hp) hp cV
def Hl(H:Hp)(Q:VK)(cs:List cS):Prop:=∀p qs H',cR H H'->H' p=some (.lst (qs.map V.ref))->Cells H' qs cs->Q (.ref p) H'
abbrev nj(R:Addr)(H:Hp)(qs:List Addr)(cs:List cS):Prop:=A2 (λq c=>q≠R/\H q=some (.lst (bv c))) qs cs
theorem nj.snoc{R q:Addr}{H H2:Hp}{qs:List Addr}{cs:List cS}{c:cS}{l:List V}(h:nj R H qs cs)(s:cR H H2)(hR:H2 R=some (.lst (qs.map V.ref)))(hn:q≠R)(hq:H2 q=some (.lst (bv c))):nj R (upd H2 R (.lst l)) (qs++[q]) (cs++[c]):=
 A2.snoc ⟨hn,by rw[eK hn];exact hq⟩ (A2.imp (λ_ _ z=>⟨z.1,by rw[eK z.1];exact s _ _ z.2⟩) h)
def nj.cells{R:Addr}{H:Hp}{qs:List Addr}{cs:List cS}(h:nj R H qs cs):Cells H qs cs:=A2.imp (λ_ _ z=>z.2) h
section
abbrev Rg:Stmt:=top 135
def aF4:dP ["place"] ["place"] (c9 Rg):=dW
inductive F7(vs:List V)(H:Hp)(Q:VK)(z3:XK):Prop|m(c:UInt8)(_:vs=[.int c.toNat])(_:Hj H Q (SH.j8 c))
def ay9(T:TX P w K mg)(F:dM K "empty_cell" "empty_cell" Rg f fd):dJ P w K mg base cY 1 f fd ["place"] F7:=by
 refine F.oK aF4 λc8 A outer s H vs Q E hr h=>?_;obtain⟨c,rfl,k⟩:=h;refine⟨_,(cW (dO (dj dU (pv 0) (dG T.sJ)) (cX (dh (fJ (cT (dG T.sJ))))) dX)
  (cX (dh (gD (dj dU (pv 0) (dG T.Yu)) (fJ (cT (dG T.Bp))) (fJ ir))))),?_⟩
 unfold SH.j8 at k;refine⟨rfl,_,rfl,dw (λz=>?_) (λz=>?_)⟩
 .have z1:c=48:=iu.mpr (V.int.inj (aj z));rw[ah z1]at k;exact⟨(by show 1<=2^24;decide),λp hp=>k.new p hp⟩
 .have z1:¬c=48:=λy=>z (by rw[y];rfl);rw[aa z1]at k;refine⟨rfl,_,rfl,dw (λz=>?_) (λz=>?_)⟩
  .have z2:c=63:=iu.mpr (V.int.inj (aj z));rw[ah z2]at k;exact⟨(by show 1<=2^24;decide),λp hp=>k.new p hp⟩
  .have z2:¬c=63:=λy=>z (by rw[y];rfl);rw[aa z2]at k;exact⟨aP _,λp hp=>k.new p hp⟩
def lenV(H:Hp)(x:V):Int:=match x with
 | .ref a=>(match H a with
  |some (.lst l)=>(l.length:Int)
  |_=>0)
 |_=>0
def ME{H:Hp}{a:Addr}{l:List V}(h:H a=some (.lst l)):lenV H (.ref a)=l.length:=by
 show(match H a with
  |some (.lst l)=>(l.length:Int)
  |_=>0)=_
 rw[h]
def am0{H:Hp}{qs:List Addr}{cs:List cS}(h:Cells H qs cs):(qs.map V.ref).filterMap (λx=>some (V.int (lenV H x)))=(cs.map λc=>((c.length:Nat):Int)).map V.int:=by
 rw[A2.Gh (λx=>V.int (lenV H x)) (λc=>V.int ((c.length:Nat):Int)) (λa c z=>by
  show V.int (lenV H (.ref a))=_;rw[ME z,eB]) h,bT]
 rfl
def ZY(cs:List cS):(cs.map λc=>((c.length:Nat):Int)).sum=(((cs.map List.length).sum:Nat):Int):=by
 induction cs with
 |nil=>rfl
 |cons c cs ih=>rw[aX,List.sum_cons,aX,List.sum_cons,ih];lia
abbrev Ra:Stmt:=top 137
def Py:dP ["cells","left","result","cell","codes","code"] ["cells"] (c9 Ra):=dW
inductive OV(K:b6)(vs:List V)(H:Hp)(Q:VK)(z3:XK):Prop|m(a qs cs)(_:vs=[.ref a])(_:cU K H a (qs.map V.ref))(_:qs.length<=100)(_:Cells H qs cs)(_:(∀c∈cs,c.length<=200))(_:Hl H Q (SH.kE cs (cs.map List.length).sum))
def ay3(T:TX P w K mg)(F:dM K "grouped" "grouped" Ra f fd):dJ P w K mg base cY 1 f fd ["cells"] (OV K):=by
 refine F.oK Py λc8 A outer s H vs Q E hr h=>?_;obtain⟨a,qs,cs,rfl,hS,hlen,hC,hc,k⟩:=h;have nd:=Py.nd;have hl:=hC.length;refine⟨_,(cW (dN (i:=1) nd (eN (Of rfl) rfl T.Qj () (cT (nk rfl nd (gR (pv 0)) (iA (N:=["cells","left","result","cell","codes","code"]) (sc:=c9 (top 137)) (own:=[("cell",3)]) ()) (λ_ _ _ _ _=>fF (i:=3) nd (.inr rfl)) (λ_ _ _ _ _=>mq) (λ_ _ _ _ _=>(eN (show mK _ _ (λxs H Q=>∃p ys,xs=[.ref p]/\(cU K H p ys\/e_ K H p ys)/\Q (.int ys.length) H)from fD) rfl T.fq () (cT (pv 3))))))))
  (cW (dN (i:=2) nd (fJ ir))
  (cW (kN cA rfl (gR (pv 0)) (fF (i:=3) nd) (cW (dN (i:=4) nd (fJ ir))
  (cW (kN cA rfl (gR (pv 3)) (fF (i:=5) nd) (cW (mz (i:=1) nd rfl (Or.inl rfl) cZ Ob)
  (cW (iO (gk b7 cK cM mX (pv 4) (cT (pv 5))))
  (cX (dO (PW.pt (nh (dj iV (pv 1) cZ) (m6 (dj dU (dm kO (pv 1) cZ) cZ)))) (cX (iO (gk b7 cK cM mX (pv 4) (cT (gD (dj dU (pv 5) (dG T.Bp)) (dG T.Bp) (dG T.ap8)))))) dX)))))
  (cX (iO (gk b7 cK cM mX (pv 2) (cT (pv 4))))))))
  (cX (dh (pv 2)))))),?_⟩
 refine⟨a,rfl,⟨_,hS⟩,λD1 gP=>i6 (λx=>some (V.int (lenV H x))) hS gP (by rw[az];lia) ?_ ?_⟩
 .intro x H' hx sm Q1 Q2 g1 g2;obtain⟨q,hq,rfl⟩:=bJ.mp hx;obtain⟨c,hcm,z⟩:=A2.zd hC hq;rw[ME z]at g1;exact⟨rfl,q,_,rfl,.inl (cU.of (sm _ _ z)),g1 _ rfl⟩
 rw[am0 hC];have s1:=cR.upd (o:=.lst ((cs.map λc=>((c.length:Nat):Int)).map V.int)) gP;refine⟨D1,_,rfl,cU.of cV,?_⟩;rw[ZY];generalize upd H D1 (.lst ((cs.map λc=>((c.length:Nat):Int)).map V.int))=G1 at*;generalize hL:(cs.map List.length).sum=L at*;refine⟨aP _,λR hR=>?_⟩;have zR:H R=none:=s1.free hR;refine⟨a,rfl,⟨_,(s1.trans (cR.upd hR)).seq hS⟩,vM (K:=K) (a:=a) (xs:=qs.map V.ref) (λi σ H'=>∃(left:Nat) (rs:List Addr) (done:List cS) (v3 v4 v5:Option V),σ=[some (.ref a),some (.int (left:Nat)),some (.ref R),v3,v4,v5]/\cR H H'/\H' R=some (.lst (rs.map V.ref))/\nj R H' rs done/\rs.length<=i/\left=((cs.drop i).map List.length).sum/\SH.kE cs L=done++SH.kE (cs.drop i) left)
  ⟨L,[],[],none,none,none,rfl,s1.trans (cR.upd hR),cV,.nil,aI _,hL.symm,rfl⟩ (λi σ H' _ ⟨_,_,_,_,_,_,_,sm,_⟩=>sm.seq hS) ?_ ?_⟩
 .rintro i x σ H' hx ⟨left,rs,done,v3,v4,v5,rfl,sm,gX,hB,k7,Gf,eS⟩;rw[aR]at hx;obtain⟨q,hq,rfl⟩:=aG.mp hx;obtain⟨c,HZ,z⟩:=A2.get hC hq;have gv:i<cs.length:=(aD.mp HZ).1;have iU:=hc c (bx HZ);rw[gh HZ]at eS Gf;rw[aX,List.sum_cons]at Gf;have aJ3:SH.kE cs L=done++(SH.g8 (left-c.length) c::SH.kE (cs.drop (i+1)) (left-c.length)):=eS;refine⟨aP _,λDc Il=>?_⟩;have zG:R≠Dc:=fE gX Il;have nX:=sm _ _ z;have Sw:q≠Dc:=fE nX Il;refine⟨q,rfl,⟨_,cU.of (by rw[eK Sw];exact nX)⟩,vM (K:=K) (a:=q) (xs:=bv c) (λj σ H2=>∃(d2:cS) (v5:Option V),σ=[some (.ref a),some (.int ((left:Int)-j)),some (.ref R),some (.ref q),some (.ref Dc),v5]/\H2=upd H' Dc (.lst (bv d2))/\d2.length<=2*j/\SH.g8 (left-c.length) c=d2++SH.g8 (left-c.length) (c.drop j))
   ⟨[],v5,by simp,rfl,aI _,rfl⟩ ?_ ?_ ?_⟩
  .rintro j σ H2 _ ⟨d2,v5,_,rfl,_⟩;exact cU.of (by rw[eK Sw];exact nX)
  .rintro j y σ H2 hy ⟨d2,v5,rfl,rfl,hd2,hg⟩;obtain⟨b,hb,rfl⟩:=we hy;have n6:j<c.length:=(aD.mp hb).1;rw[gh hb]at hg;have n9:(c.drop (j+1)).length=c.length-(j+1):=aQ;have hg:SH.g8 (left-c.length) c=d2++(SH.nJ (left-(j+1)) b++SH.g8 (left-c.length) (c.drop (j+1))):=by
    rw[hg];show d2++(SH.nJ (left-c.length+(c.drop (j+1)).length) b++_)=_;rw[n9,show left-c.length+(c.length-(j+1))=left-(j+1) by lia]
   refine⟨_,rfl,_,_,rfl,rfl,?_⟩;refine⟨.inl ⟨rfl,_,cU.of cV⟩,Dc,_,_,rfl,rfl,cV,(by rw[eB];show _<2^24;lia),?_⟩;rw[jd,show bv d2++[V.int (b.toNat:Int)]=bv (d2++[b])from(jK d2 [b]).symm];unfold SH.nJ at hg;have en:((left:Int)-((j+1:Nat):Int))=(left:Int)-(j:Nat)-1:=();refine⟨_,_,rfl,rfl,_,rfl,dw (λz1=>?_) (λz1=>?_)⟩
   .have y1:0<left-(j+1):=by have:(0:Int)<(left:Int)-(j:Nat)-1:=aj z1;lia
    refine⟨_,_,rfl,rfl,(by show(0:Int)<_;decide),rfl,_,rfl,dw (λz2=>?_) (λz2=>?_)⟩
    .have y2:(left-(j+1))%3=0:=by have:((left:Int)-(j:Nat)-1)%3=0:=V.int.inj (aj z2);lia
     rw[ah ⟨y1,y2⟩]at hg;refine⟨.inl ⟨rfl,_,cU.of cV⟩,rfl,_,rfl,dw (λz3=>?_) (λz3=>?_)⟩
     .have y3:b=32:=iu.mpr (V.int.inj (aj z3));rw[ah y3]at hg;refine⟨Dc,_,_,rfl,rfl,cV,(by rw[eB,aC];show _+1<2^24;lia),d2++[b]++[32],_,(by rw[en];rfl),?_,?_,?_⟩
      .rw[jd,jK (d2++[b])];rfl
      .rw[aC,aC];show _+1+1<=_;lia
      .rw[hg];simp
     .have y3:¬b=32:=λy=>z3 (by rw[y];rfl);rw[aa y3]at hg;refine⟨Dc,_,_,rfl,rfl,cV,(by rw[eB,aC];show _+1<2^24;lia),d2++[b]++[44],_,(by rw[en];rfl),?_,?_,?_⟩
      .rw[jd,jK (d2++[b])];rfl
      .rw[aC,aC];show _+1+1<=_;lia
      .rw[hg];simp
    .rw[aa (λy=>z2 (ak (by have:=y.2;exact cI V.int (show((left:Int)-(j:Nat)-1)%3=0 by lia))))]at hg;exact⟨d2++[b],_,(by rw[en];rfl),rfl,by rw[aC];show _+1<=_;lia,by rw[hg];simp⟩
   .rw[aa (λy=>z1 (ak (by have:=y.1;exact(show(0:Int)<(left:Int)-(j:Nat)-1 by lia))))]at hg;exact⟨d2++[b],_,(by rw[en];rfl),rfl,by rw[aC];show _+1<=_;lia,by rw[hg];simp⟩
  .rintro σ H2 ⟨d2,v5,rfl,rfl,hd2,hg⟩;rw[eB]at hd2;rw[eB,List.drop_length]at hg;have e2:SH.g8 (left-c.length) c=d2:=by rw[hg];exact aU _
   rw[eB];have sD:=cR.upd (o:=.lst (bv d2)) Il;refine⟨.inl ⟨rfl,_,cU.of (sD _ _ gX)⟩,R,_,_,rfl,rfl,sD _ _ gX,(by rw[az];show _<2^24;lia),left-c.length,rs++[Dc],done++[d2],some (.ref q),some (.ref Dc),v5,?_,(sm.trans sD).off zR,?_,?_,?_,?_,?_⟩
   .rw[show((left-c.length:Nat):Int)=(left:Int)-(c.length:Nat) by lia]
   .rw[cV,bf];rfl
   .exact hB.snoc sD (sD _ _ gX) (cH zG) cV
   .rw[aC];exact Nat.succ_le_succ k7
   .lia
   .rw[aJ3,e2,bw];rfl
 .rintro σ H' ⟨left,rs,done,v3,v4,v5,rfl,sm,gX,hB,k7,Gf,eS⟩;rw[az,hl,List.drop_length]at eS;have:SH.kE cs L=done:=by rw[eS];exact aU _
  rw[this]at k;exact(k R rs H' sm gX hB.cells)
end
def ae7(l:cS):((bv l).countP λz=>iW z (.int 48))=(l.filter λd=>d==48).length:=by
 induction l with
 |nil=>rfl
 |cons c l ih=>
  rw[show bv (c::l)=V.int (c.toNat:Int)::bv l from rfl,List.countP_cons,ih,List.filter_cons];have:iW (V.int (c.toNat:Int)) (.int 48)=(c==48):=by
   show((c.toNat:Int)==48)=_;rw[bC];simp;exact⟨λh=>iu.mpr h,λh=>by rw[h];rfl⟩
  rw[this];cases(c==48)<;>simp
def YD(l:cS):decide ((l.filter λd=>d==48).length=l.length)= !l.any λd=>d != 48:=by
 rw[bC,aq,List.length_filter_eq_length_iff,Bool.not_eq_true',Bool.eq_false_iff];simp
def Eb{k n:Nat}(hk:0<k)(h:n<10^k):(Sv68.padded k n).length=k:=by
 rw[oh];have:=j7 hk h;lia
section
abbrev Rj:Stmt:=top 138
def PJ:dP ["places","decimals","digits","cells","at","place","is_rest_zero"] ["places","decimals"] (c9 Rj):=dW
inductive O4(K:b6)(vs:List V)(H:Hp)(Q:VK)(z3:XK):Prop|m(a pl)(n:Nat)(_:vs=[.ref a,.int n])(_:cU K H a (bv pl))(_:pl.length<=90)(_:n<10^pl.length)(_:Hl H Q (SH.jq pl (Sv68.padded pl.length n)))
def az2(T:TX P w K mg)(iz:Own P w K mg base cY 2 "digits_of" ["number","least"] oG)(DM:Own P w K mg base cY 1 "empty_cell" ["place"] F7)(F:dM K "decimal_cells" "decimal_cells" Rj f fd):dJ P w K mg base cY 3 f fd ["places","decimals"] (O4 K):=by
 refine F.oK PJ λc8 A outer s H vs Q E hr h=>?_;obtain⟨a,pl,n,rfl,hS,hlen,hn,k⟩:=h;have nd:=PJ.nd;refine⟨_,(cW (dN (i:=2) nd (dF iz hr (c_ (pv 1) (cT (eN fD rfl T.fq () (cT (pv 0)))))))
  (cW (dN (i:=3) nd (fJ ir))
  (cW (kN cA rfl (vP rfl T.t_ (cT (pv 0))) (uD rfl (lA (fF (i:=4) nd) (lA (fF (i:=5) nd) ux))) (cW (dN (i:=6) nd (fQ dU (gk b7 cN cO qX (fP fX (pv 2) (eY (pv 4)) gQ) (cT (dG T.sJ))) (dm iI (eN fD rfl T.fq () (cT (pv 2))) (pv 4))))
  (cX (iO (gk b7 cK cM mX (pv 3) (cT (gD (iH (pv 6)) (dF DM hr (cT (pv 5))) (fJ (cT (fM fW (pv 2) (pv 4) (λ_ _=>rfl)))))))))))
  (cX (dh (pv 3)))))),?_⟩
 refine⟨a,_,rfl,.inl hS,n,pl.length,by rw[eB];rfl,bA hn (bL () hlen),hlen,λpd hpd=>?_⟩;have s1:=cR.upd (o:=.lst (bv (Sv68.padded pl.length n))) hpd;have kI:upd H pd (.lst (bv (Sv68.padded pl.length n))) pd=some (.lst (bv (Sv68.padded pl.length n))):=cV;generalize upd H pd (.lst (bv (Sv68.padded pl.length n)))=G1 at*;have fh:pl≠[]->(Sv68.padded pl.length n).length=pl.length:=λh=>Eb (List.length_pos_iff.mpr h) hn;generalize Sv68.padded pl.length n=ds at*;refine⟨aP _,λR hR=>?_⟩;have zR:H R=none:=s1.free hR;have HG:pd≠R:=fE kI hR;have s2:=cR.upd (o:=.lst []) hR;refine⟨a,_,rfl,(s1.trans s2).seq hS,yd (K:=K) (a:=a) (xs:=bv pl) (λi σ H'=>∃(rs:List Addr) (done:List cS) (v4 v5 v6:Option V),σ=[some (.ref a),some (.int (n:Nat)),some (.ref pd),some (.ref R),v4,v5,v6]/\cR H H'/\H' pd=some (.lst (bv ds))/\H' R=some (.lst (rs.map V.ref))/\nj R H' rs done/\rs.length<=i/\SH.jq pl ds=done++SH.jq (pl.drop i) (ds.drop i))
  ⟨[],[],none,none,none,rfl,s1.trans s2,s2 _ _ kI,cV,.nil,aI _,rfl⟩ (λi σ H' _ ⟨_,_,_,_,_,_,sm,_⟩=>sm.seq hS) ?_ ?_⟩
 .rintro i y σ H' T' hy ⟨rs,done,v4,v5,v6,rfl,sm,hd,gX,hB,k7,eS⟩ hT;obtain⟨c,hc,rfl⟩:=we hy;have gv:i<pl.length:=(aD.mp hc).1;have n9:ds.length=pl.length:=fh (λe=>by rw[e]at gv;exact cJ gv (Nat.not_lt_zero _));refine⟨T',_,rfl,e_.of cV,rfl,_,_,rfl,_,_,rfl,rfl,?_⟩;have sT:cR H' (upd H' T' (.tup [.int (i:Nat),.int c.toNat])):=cR.upd hT;have sm:=sm.trans sT;have hd:=sT _ _ hd;have gX:=sT _ _ gX;have hB:nj R _ rs done:=A2.imp (λ_ _ z=>⟨z.1,sT _ _ z.2⟩) hB;generalize upd H' T' (.tup [.int (i:Nat),.int c.toNat])=H' at*;rw[gh hc]at eS;have eS:SH.jq pl ds=done++((if((ds.drop i).any λd=>d != 48)=true then [(ds.drop i).headD 48]else SH.j8 c)::SH.jq (pl.drop (i+1)) (ds.drop (i+1))):=by
   rw[eS];show done++(_::SH.jq _ ((ds.drop i).drop 1))=_;rw[bz]
  refine⟨(i:Int),rfl,pd,_,rfl,cU.of hd,?_⟩;rw[AM];intro p2 fS;have sp:=cR.upd (o:=.lst (bv (ds.drop i))) fS;refine⟨.inl ⟨rfl,_,cU.of cV⟩,p2,_,_,rfl,rfl,cU.of cV,rfl,MX _,?_⟩;refine⟨pd,_,rfl,.inl (cU.of (sp _ _ hd)),_,_,rfl,rfl,rfl,?_⟩;have eb:decide (V.int (((bv (ds.drop i)).countP λz=>iW z (.int 48):Nat):Int)=V.int (((bv ds).length:Int)-(i:Nat)))= !(ds.drop i).any λd=>d != 48:=by
   rw[<-YD,ae7,eB];refine au.mpr ⟨λh=>?_,λh=>cI V.int ?_⟩
   .have:=V.int.inj h;rw[aQ];lia
   .rw[h,aQ];lia
  have ap:∀{H2:Hp} {q:Addr} {o:cS} {v6:Option V},cR H' H2->q≠R->o=(if((ds.drop i).any λd=>d != 48)=true then [(ds.drop i).headD 48]else SH.j8 c)->H2 q=some (.lst (bv o))->ES (.ref R) [.ref q] H2 λ_ H3=>∃(rs:List Addr) (done:List cS) (w4 w5 w6:Option V),[some (V.ref a),some (.int (n:Nat)),some (.ref pd),some (.ref R),some (.int (i:Nat)),some (.int c.toNat),v6]=[some (.ref a),some (.int (n:Nat)),some (.ref pd),some (.ref R),w4,w5,w6]/\cR H H3/\H3 pd=some (.lst (bv ds))/\H3 R=some (.lst (rs.map V.ref))/\nj R H3 rs done/\rs.length<=i+1/\SH.jq pl ds=done++SH.jq (pl.drop (i+1)) (ds.drop (i+1)):=by
   intro H2 q o v6 s2 zG eo hq;rw[<-eo]at eS;refine⟨R,_,_,rfl,rfl,s2 _ _ gX,(by rw[az];show _<2^24;lia),rs++[q],done++[o],_,_,_,rfl,(sm.trans s2).off zR,by rw[eK HG];exact s2 _ _ hd,by rw[cV,bf];rfl,hB.snoc s2 (s2 _ _ gX) zG hq,by rw[aC];exact Nat.succ_le_succ k7,?_⟩;rw[eS,bw];rfl
  refine⟨.inl ⟨rfl,_,cU.of (sp _ _ gX)⟩,!(ds.drop i).any λd=>d != 48,cI V.bl eb,?_⟩;cases ha:(ds.drop i).any λd=>d != 48 with
  |false=>
   refine dZ ⟨c,rfl,λq H2 s2 pI hq=>ap (sp.trans s2) (cH (fE (sp _ _ gX) pI)) (by rw[ha];rfl) hq⟩
  |true=>
   obtain⟨d,SN⟩:∃d,ds[i]? =some d:=⟨_,br ()⟩;refine dB ⟨pd,_,_,_,rfl,rfl,cU.of (sp _ _ hd),eV (j:=i) (v:=.int d.toNat) (by rw[qt SN]),(by show 1<=2^24;decide),λq hq=>ap (sp.trans (cR.upd hq)) (cH (fE (sp _ _ gX) hq)) (o:=[d]) ?_ cV⟩;rw[ha,ah rfl,gh SN];rfl
 .rintro σ H' ⟨rs,done,v4,v5,v6,rfl,sm,hd,gX,hB,k7,eS⟩;rw[eB,List.drop_length]at eS;have:SH.jq pl ds=done:=by rw[eS];exact aU _
  rw[this]at k;exact(k R rs H' sm gX hB.cells)
def kL(v1 v2 v3 v4 v5 v6 v7:V):List (Str×V):=(eG "divisor" v7 (eG "factor" v6 (eG "has_groups" v5 (eG "behind" v4 (eG "whole" v3 (eG "exponent" v2 (eG "pieces" v1 [])))))))
def UW{v1 v2 v3 v4 v5 v6 v7:V}:(kL v1 v2 v3 v4 v5 v6 v7).lookup ("pieces":Str)=some v1:=by
 unfold kL;rw[eO,aa (),eO,aa (),eO,aa (),eO,aa (),eO,aa (),eO,aa (),eO,ah rfl]
def Df{v1 v2 v3 v4 v5 v6 v7:V}:(kL v1 v2 v3 v4 v5 v6 v7).lookup ("exponent":Str)=some v2:=by
 unfold kL;rw[eO,aa (),eO,aa (),eO,aa (),eO,aa (),eO,aa (),eO,ah rfl]
def Ag{v1 v2 v3 v4 v5 v6 v7:V}:(kL v1 v2 v3 v4 v5 v6 v7).lookup ("whole":Str)=some v3:=by
 unfold kL;rw[eO,aa (),eO,aa (),eO,aa (),eO,aa (),eO,ah rfl]
def xR{v1 v2 v3 v4 v5 v6 v7:V}:(kL v1 v2 v3 v4 v5 v6 v7).lookup ("behind":Str)=some v4:=by
 unfold kL;rw[eO,aa (),eO,aa (),eO,aa (),eO,ah rfl]
def Ui{v1 v2 v3 v4 v5 v6 v7:V}:(kL v1 v2 v3 v4 v5 v6 v7).lookup ("has_groups":Str)=some v5:=by
 unfold kL;rw[eO,aa (),eO,aa (),eO,ah rfl]
def UX{v1 v2 v3 v4 v5 v6 v7:V}:(kL v1 v2 v3 v4 v5 v6 v7).lookup ("factor":Str)=some v6:=by
 unfold kL;rw[eO,aa (),eO,ah rfl]
def UH{v1 v2 v3 v4 v5 v6 v7:V}:(kL v1 v2 v3 v4 v5 v6 v7).lookup ("divisor":Str)=some v7:=by
 unfold kL;rw[eO,ah rfl]
structure r8(K:b6)(C:Addr):Prop where
 cl:lq K C
 sf:gz K C "pieces"
 Ay:gz K C "exponent"
 yj:gz K C "whole"
 vK:gz K C "behind"
 JC:gz K C "has_groups"
 Lz:gz K C "factor"
 KQ:gz K C "divisor"
def ZQ(C:Addr)(H:Hp)(a:Addr)(v1 v2 v3 v4 v5 v6 v7:V):Prop:=∃dx,H a=some (.ins C dx (kL v1 v2 v3 v4 v5 v6 v7))
structure qz(C:Cs)(CL:Addr)(H0 H:Hp)(q:Addr)(A X:List Pc)(w t:cS)(g:Bool)(fa di:Nat):Prop where
 ex:∃la lx lw lb n_ pR,ZQ CL H q (.ref la) (.ref lx) (.ref lw) (.ref lb) (.bl g) (.int (fa:Nat)) (.int (di:Nat))/\H la=some (.lst (n_.map V.ref))/\Ps C H0 H n_ A/\n_.length<=300/\H lx=some (.lst (pR.map V.ref))/\Ps C H0 H pR X/\pR.length<=300/\H lw=some (.lst (bv w))/\H lb=some (.lst (bv t))
theorem qz.same{CL:Addr}{H0 H H':Hp}{q:Addr}{A X:List Pc}{w t:cS}{g:Bool}{fa di:Nat}(s:cR H H')(h:qz C CL H0 H q A X w t g fa di):qz C CL H0 H' q A X w t g fa di:=by
 obtain⟨la,lx,lw,lb,n_,pR,⟨dx,h1⟩,h2,h3,h4,h5,h6,h7,h8,h9⟩:=h.ex;exact⟨la,lx,lw,lb,n_,pR,⟨dx,s _ _ h1⟩,s _ _ h2,h3.same s,h4,s _ _ h5,h6.same s,h7,s _ _ h8,s _ _ h9⟩
abbrev BQ:Stmt:=top 136
def O9:dP ["layout","whole","digits","cells","at","place","behind","end","begin"] ["layout","whole"] (c9 BQ):=dW
inductive Ou(C:Cs)(CL:Addr)(vs:List V)(H:Hp)(Q:VK)(z3:XK):Prop|m(q H0 A X w t g fa di)(n:Nat)(_:vs=[.ref q,.int n])(_:qz C CL H0 H q A X w t g fa di)(_:w.length<=90)(_:n<10^90)(_:Hl H Q (SH.jB g w (if w=[]then []else Sv68.bare n)))
def Kp{k:Nat}{ds:cS}{i:Nat}{c:UInt8}(h:ds.length<=90):(SH.cellAt k ds i c).length<=200:=by
 unfold SH.cellAt;split
 .rw[aQ,aW];omega
 .unfold SH.j8
  repeat' split
  all_goals decide
def av4{f CL:Addr}(T:TX P w K mg)(TL:r8 K CL)(iz:Own P w K mg base cY 2 "digits_of" ["number","least"] oG)(DM:Own P w K mg base cY 1 "empty_cell" ["place"] F7)(ZM:Own P w K mg base cY 1 "grouped" ["cells"] (OV K))(F:dM K "whole_cells" "whole_cells" BQ f fd):dJ P w K mg base cY 3 f fd ["layout","whole"] (Ou C CL):=by
 refine F.oK O9 λc8 A outer s H vs Q E hr h=>?_;obtain⟨q,H0,A',X,pl,t,g,fa,di,n,rfl,hL,hlen,hn,k⟩:=h;have nd:=O9.nd;obtain⟨la,lx,lw,lb,n_,pR,⟨dx,h1⟩,h2,h3,h4,h5,h6,h7,h8,h9⟩:=hL.ex;obtain⟨t2,mR,main⟩:∃t2,gb (gJ cY P w K mg base ["layout","whole","digits","cells","at","place","behind","end","begin"] "whole_cells" (c9 BQ) f c8 A outer s H E).jV ((gH BQ).drop 1) t2/\∀(pd:Addr) (G:Hp),cR H G->G pd=some (.lst (bv (Sv68.bare n)))->t2 {nx:=λ_ H'=>Q .dI H',rt:=Q} [some (.ref q),some (.int (n:Nat)),some (.ref pd),none,none,none,none,none,none] G:=by
  refine⟨_,(cW (dN (i:=3) nd (fJ ir))
  (cW (kN cA rfl (vP rfl T.t_ (cT (dH (pv 0) rfl))) (uD rfl (lA (fF (i:=4) nd) (lA (fF (i:=5) nd) ux))) (cW (dN (i:=6) nd (dm iI (dm iI (eN fD rfl T.fq () (cT (dH (pv 0) rfl))) cZ) (pv 4)))
  (cW (dN (i:=7) nd (eN (AK rfl) rfl T.wA () (c_ (dm iI (eN fD rfl T.fq () (cT (pv 2))) (pv 6)) (cT cZ))))
  (cW (dN (i:=8) nd (gD (dj dU (pv 4) cZ) cZ (eN (AK rfl) rfl T.wA () (c_ (dm iI (pv 7) cZ) (cT cZ)))))
  (cX (iO (gk b7 cK cM mX (pv 3) (cT (gD (dj iV (pv 7) cZ) (fP fX (pv 2) (eY (pv 8)) (eY (pv 7))) (dF DM hr (cT (pv 5))))))))))))
  (cX (dh (gD (iH (dH (pv 0) rfl)) (dF ZM hr (cT (pv 3))) (pv 3)))))),λpd G1 s1 kI=>?_⟩
  have ew:SH.jB g pl (if pl=[]then []else Sv68.bare n)=SH.jB g pl (Sv68.bare n):=by
   by_cases e:pl=[]
   .subst e;cases g<;>rfl
   .rw[aa e]
  rw[ew]at k;have n9:(Sv68.bare n).length<=90:=by
   unfold Sv68.bare;split
   .decide
   .exact j7 () hn
  generalize Sv68.bare n=ds at*;refine⟨aP _,λR hR=>?_⟩;have zR:H R=none:=s1.free hR;have HG:pd≠R:=fE kI hR;have s2:=cR.upd (o:=.lst []) hR;have gV:=s1.trans s2;refine⟨q,CL,dx,_,_,rfl,gV _ _ h1,TL.cl,TL.yj,Ag,lw,_,rfl,cU.of (gV _ _ h8),yd (K:=K) (a:=lw) (xs:=bv pl) (λi σ H'=>∃(rs:List Addr) (done:List cS) (v4 v5 v6 v7 v8:Option V),σ=[some (.ref q),some (.int (n:Nat)),some (.ref pd),some (.ref R),v4,v5,v6,v7,v8]/\cR H H'/\H' pd=some (.lst (bv ds))/\H' R=some (.lst (rs.map V.ref))/\nj R H' rs done/\rs.length=i/\done=(SH.jT pl ds).take i)
   ⟨[],[],none,none,none,none,none,rfl,gV,s2 _ _ kI,cV,.nil,rfl,rfl⟩ (λi σ H' _ ⟨_,_,_,_,_,_,_,_,sm,_⟩=>cU.of (sm _ _ h8)) ?_ ?_⟩
  .rintro i y σ H' T' hy ⟨rs,done,v4,v5,v6,v7,v8,rfl,sm,hd,gX,hB,k7,eS⟩ hT;obtain⟨c,hc,rfl⟩:=we hy;have gv:i<pl.length:=(aD.mp hc).1;refine⟨T',_,rfl,e_.of cV,rfl,_,_,rfl,_,_,rfl,rfl,?_⟩;have sT:cR H' (upd H' T' (.tup [.int (i:Nat),.int c.toNat])):=cR.upd hT;have sm:=sm.trans sT;have hd:=sT _ _ hd;have gX:=sT _ _ gX;have hB:nj R _ rs done:=A2.imp (λ_ _ z=>⟨z.1,sT _ _ z.2⟩) hB;generalize upd H' T' (.tup [.int (i:Nat),.int c.toNat])=H' at*;have oM:(SH.jT pl ds)[i]? =some (SH.cellAt pl.length ds i c):=by
    unfold SH.jT;rw[aR,List.getElem?_zipIdx,hc];show some (SH.cellAt pl.length ds (0+i) c)=_;rw[Nat.zero_add]
   have ap:∀{H2:Hp} {p2:Addr} {o:cS} {v6 v7 v8:Option V},cR H' H2->p2≠R->o=SH.cellAt pl.length ds i c->H2 p2=some (.lst (bv o))->ES (.ref R) [.ref p2] H2 λ_ H3=>∃(rs:List Addr) (done:List cS) (w4 w5 w6 w7 w8:Option V),[some (V.ref q),some (.int (n:Nat)),some (.ref pd),some (.ref R),some (.int (i:Nat)),some (.int c.toNat),v6,v7,v8]=[some (.ref q),some (.int (n:Nat)),some (.ref pd),some (.ref R),w4,w5,w6,w7,w8]/\cR H H3/\H3 pd=some (.lst (bv ds))/\H3 R=some (.lst (rs.map V.ref))/\nj R H3 rs done/\rs.length=i+1/\done=(SH.jT pl ds).take (i+1):=by
    intro H2 p2 o v6 v7 v8 s2 zG eo hq;rw[<-eo]at oM;refine⟨R,_,_,rfl,rfl,s2 _ _ gX,(by rw[az];show _<2^24;lia),rs++[p2],done++[o],_,_,_,_,_,rfl,(sm.trans s2).off zR,by rw[eK HG];exact s2 _ _ hd,by rw[cV,bf];rfl,hB.snoc s2 (s2 _ _ gX) zG hq,by rw[aC,k7];rfl,?_⟩;rw[eS,List.take_succ,oM];rfl
   unfold SH.cellAt at ap;refine⟨q,CL,dx,_,_,rfl,sm _ _ h1,TL.cl,TL.yj,Ag,lw,_,rfl,.inl (cU.of (sm _ _ h8)),_,_,rfl,rfl,_,_,rfl,rfl,?_⟩;refine⟨pd,_,rfl,.inl (cU.of hd),_,_,rfl,rfl,_,_,rfl,?_⟩;have ee:(if(0:Int)>((bv ds).length:Int)-(((bv pl).length:Int)-1-(i:Nat))then(0:Int)else((bv ds).length:Int)-(((bv pl).length:Int)-1-(i:Nat)))=((ds.length-(pl.length-1-i):Nat):Int):=by
    rw[eB,eB];split<;>lia
   show qC _ _ _ [_,_,_,_,_,_,_,some (V.int (if(0:Int)>((bv ds).length:Int)-(((bv pl).length:Int)-1-(i:Nat))then(0:Int)else((bv ds).length:Int)-(((bv pl).length:Int)-1-(i:Nat)))),_] H';rw[ee];have he:ds.length-(pl.length-1-i)<=ds.length:=();generalize ds.length-(pl.length-1-i)=e at*;refine⟨rfl,_,rfl,dw (λz1=>?_) (λz1=>?_)⟩
   .have y1:i=0:=by have:=V.int.inj (aj z1);lia
    rw[ah y1]at ap;refine⟨.inl ⟨rfl,_,cU.of gX⟩,_,_,rfl,rfl,_,rfl,dw (λz2=>?_) (λz2=>?_)⟩
    .have y2:0<e:=by have:=aj z2;lia
     rw[ah y2]at ap;refine⟨((0:Nat):Int),rfl,((e:Nat):Int),rfl,pd,_,rfl,cU.of hd,?_⟩;rw[rG];intro p2 fS;exact ap (cR.upd fS) (cH (fE gX fS)) (by rw[List.drop_take]) cV
    .have y2:¬0<e:=λy=>z2 (ak ());rw[aa y2]at ap;exact⟨c,rfl,λp2 H2 s2 xh fS=>ap s2 (cH (fE gX xh)) rfl fS⟩
   .have y1:¬i=0:=λy=>z1 (by rw[y];rfl);rw[aa y1]at ap;refine⟨_,_,rfl,rfl,_,_,rfl,?_⟩;have e2:(if(0:Int)>(e:Int)-1 then(0:Int)else(e:Int)-1)=((e-1:Nat):Int):=by split<;>lia
    show qC _ _ _ [_,_,_,_,_,_,_,_,some (V.int (if(0:Int)>(e:Int)-1 then(0:Int)else(e:Int)-1))] H';rw[e2];refine⟨.inl ⟨rfl,_,cU.of gX⟩,_,_,rfl,rfl,_,rfl,dw (λz2=>?_) (λz2=>?_)⟩
    .have y2:0<e:=by have:=aj z2;lia
     rw[ah y2]at ap;refine⟨((e-1:Nat):Int),rfl,((e:Nat):Int),rfl,pd,_,rfl,cU.of hd,?_⟩;rw[rG];intro p2 fS;exact ap (cR.upd fS) (cH (fE gX fS)) (by rw[List.drop_take]) cV
    .have y2:¬0<e:=λy=>z2 (ak ());rw[aa y2]at ap;exact⟨c,rfl,λp2 H2 s2 xh fS=>ap s2 (cH (fE gX xh)) rfl fS⟩
  .rintro σ H' ⟨rs,done,v4,v5,v6,v7,v8,rfl,sm,hd,gX,hB,k7,eS⟩;rw[bq (by rw[SH.EI,eB];exact aI _)]at eS;subst eS;rw[eB]at k7;unfold SH.jB at k;refine⟨q,CL,dx,_,_,rfl,sm _ _ h1,TL.cl,TL.JC,Ui,g,rfl,?_⟩;cases g with
   |true=>
    rw[ah rfl]at k;refine dZ ⟨R,rs,_,rfl,cU.of gX,(),hB.cells,λc hc=>?_,λp qs H2 s2=>k p qs H2 (sm.trans s2)⟩;unfold SH.jT at hc;obtain⟨x,_,rfl⟩:=bJ.mp hc;exact Kp n9
   |false=>
    rw[aa ()]at k;exact dB (k R rs H' sm gX hB.cells)
 refine⟨_,(cW (dN (i:=2) nd (gD (dj iV (pv 1) cZ) (dF iz hr (c_ (pv 1) (cT cZ))) (fJ ir)))
  mR),?_⟩
 rcases Nat.eq_zero_or_pos n with hz|hz
 .refine⟨_,_,rfl,rfl,false,cI V.bl (ao ()),dB ⟨aP _,λp hp=>main p _ (cR.upd hp) ?_⟩⟩;rw[cV];unfold Sv68.bare;rw[ah hz];rfl
 .refine⟨_,_,rfl,rfl,true,cI V.bl (ak ()),dZ ⟨n,1,rfl,hn,(),λp hp=>main p _ (cR.upd hp) ?_⟩⟩;rw[cV];unfold Sv68.bare Sv68.padded;have:=SH.xX n;rw[aa (),show 1-(Sv68.decimal n).length=0 by lia];rfl
end
abbrev gA(A:List Pc):Nat:=(A.map Pc.name).count dD
def Ga{p:Pc}(hn:Named p):(∃c,p= .sign dD c)\/(∃b,p= .text b)\/(∃c,p= .sign gf c)\/(∃c,p= .sign fB c)\/((p.name≠dD/\p.name≠iD/\p.name≠gf/\p.name≠fB)/\∀r cs,SH.fC (lp (p::r)) cs=SH.fC (lp r) cs):=by
 cases p with
 |text b=>exact .inr (.inl ⟨b,rfl⟩)
 |sign nm c=>
  rcases hn with e|e|e|e|e<;>subst e
  .exact .inl ⟨c,rfl⟩
  .exact .inr (.inr (.inr (.inl ⟨c,rfl⟩)))
  .exact .inr (.inr (.inr (.inr ⟨by dsimp only[Pc.name];decide+kernel,λ_ _=>rfl⟩)))
  .exact .inr (.inr (.inl ⟨c,rfl⟩))
  .exact .inr (.inr (.inr (.inr ⟨by dsimp only[Pc.name];decide+kernel,λ_ _=>rfl⟩)))
 |word nm n=>
  rcases hn with e|e<;>(subst e;exact .inr (.inr (.inr (.inr ⟨by dsimp only[Pc.name];decide+kernel,λ_ _=>rfl⟩))))
 |part l n d=>exact .inr (.inr (.inr (.inr ⟨by show iR≠_/\iR≠_/\iR≠_/\iR≠_;decide+kernel,λ_ _=>rfl⟩)))
 |passed l n d=>exact .inr (.inr (.inr (.inr ⟨by show jA≠_/\jA≠_/\jA≠_/\jA≠_;decide+kernel,λ_ _=>rfl⟩)))
 |exponent c=>exact .inr (.inr (.inr (.inr ⟨by show fc≠_/\fc≠_/\fc≠_/\fc≠_;decide+kernel,λ_ _=>rfl⟩)))
 |colour k=>exact .inr (.inr (.inr (.inr ⟨by show gr≠_/\gr≠_/\gr≠_/\gr≠_;decide+kernel,λ_ _=>rfl⟩)))
 |condition z x=>exact .inr (.inr (.inr (.inr ⟨by show gq≠_/\gq≠_/\gq≠_/\gq≠_;decide+kernel,λ_ _=>rfl⟩)))
def AY(p:Pc)(A:List Pc):gA (p::A)=gA A+if p.name=dD then 1 else 0:=by
 show((p::A).map Pc.name).count dD=_;rw[aX,List.count_cons]
 by_cases h:p.name=dD
 .rw[ah h,ah (by simpa using h)]
 .rw[aa h,aa (by simpa using h)]
section
abbrev QX:Stmt:=top 134
def Pk:dP ["pieces","cells","codes","place","piece"] ["pieces","cells"] (c9 QX):=dW
inductive OJ(K:b6)(C:Cs)(vs:List V)(H:Hp)(Q:VK)(z3:XK):Prop|m(a as A H0 b qs cs)(_:vs=[.ref a,.ref b])(_:cU K H a (as.map V.ref))(_:as.length<=300)(_:Ps C H0 H as A)(_:(∀p∈A,Named p))(_:(∀p∈A,iM p))(_:cU K H b (qs.map V.ref))(_:Cells H qs cs)(_:cs.length=gA A)(_:(∀c∈cs,c.length<=600))(_:jE H Q (SH.fC (lp A) cs))
def ax0(T:TX P w K mg)(TP:lB K C.piece)(F:dM K "put_together" "put_together" QX f fd):dJ P w K mg base cY 1 f fd ["pieces","cells"] (OJ K C):=by
 refine F.oK Pk λc8 A outer s H vs Q E hr h=>?_;obtain⟨a,as,Ap,H0,b,qs,cs,rfl,hS,hlen,hP,hN,hF,hSb,hC,iU,H_,k⟩:=h;have nd:=Pk.nd;have hl:=hP.length;refine⟨_,(cW (dN (i:=2) nd (fJ ir))
  (cW (dN (i:=3) nd cZ)
  (cW (kN cA rfl (gR (pv 0)) (fF (i:=4) nd) (cX (dO (dj dU (dH (pv 4) rfl) eH) (cW (iO (gk b7 cP cQ qY (pv 2) (cT (fM fW (pv 1) (pv 3) (λ_ _=>rfl)))))
  (cX (mz (i:=3) nd rfl (Or.inl rfl) cZ qm))) (cX (dO (dj dU (dH (pv 4) rfl) eH) (cX (iO (gk b7 cP cQ qY (pv 2) (cT (dH (pv 4) rfl))))) (cX (dO (dj dU (dH (pv 4) rfl) eH) (cX (iO (gk b7 cK cM mX (pv 2) (cT (dG T.ZC))))) (cX (dO (dj dU (dH (pv 4) rfl) eH) (cX (iO (gk b7 cK cM mX (pv 2) (cT (dG T.yp))))) dX)))))))))
  (cX (dh (pv 2)))))),?_⟩
 refine⟨aP _,λD hD=>?_⟩;have sD:=cR.upd (o:=.lst []) hD;refine⟨a,rfl,⟨_,sD.seq hS⟩,vM (K:=K) (a:=a) (xs:=as.map V.ref) (λi σ H'=>∃(done:cS) (m:Nat) (v4:Option V),σ=[some (.ref a),some (.ref b),some (.ref D),some (.int (m:Nat)),v4]/\cR H H'/\H' D=some (.lst (bv done))/\done.length<=600*i/\cs.length=m+gA (Ap.drop i)/\SH.fC (lp Ap) cs=done++SH.fC (lp (Ap.drop i)) (cs.drop m))
  ⟨[],0,none,rfl,sD,cV,aI _,by rw[Nat.zero_add];exact iU,rfl⟩ (λi σ H' _ ⟨_,_,_,_,sm,_⟩=>sm.seq hS) ?_ ?_⟩
 .rintro i x σ H' hx ⟨done,m,v4,rfl,sm,gC,n9,hm,eS⟩;rw[aR]at hx;obtain⟨pa,tK,rfl⟩:=aG.mp hx;obtain⟨p,hp,e,rO⟩:=A2.get (hP.same sm) tK;have gv:i<Ap.length:=(aD.mp hp).1;have u_:=hN p (bx hp);have rS:=hF p (bx hp);obtain⟨v,dx,fU,hv,f1,f2⟩:=rO.fields;rw[gh hp]at eS hm;rw[AY]at hm;rcases Ga u_ with⟨c,rfl⟩|⟨bb,rfl⟩|⟨c,rfl⟩|⟨c,rfl⟩|⟨⟨n1,n2,n3,n4⟩,k8⟩
  .have hm:cs.length=m+(gA (Ap.drop (i+1))+1):=hm;obtain⟨cell,oM⟩:∃cell,cs[m]? =some cell:=⟨_,br ()⟩;obtain⟨q,hq,hqc⟩:=A2.GO (hC.same sm) oM;have hc1:=H_ cell (bx oM);have eS:SH.fC (lp Ap) cs=done++(cell++SH.fC (lp (Ap.drop (i+1))) (cs.drop (m+1))):=by
    rw[eS,gh oM];rfl
   refine⟨pa,C.piece,dx,_,_,rfl,fU,TP.cl,TP.fz,fu,rfl,true,kH rfl,dZ ⟨.inl ⟨rfl,_,cU.of gC⟩,b,_,_,_,rfl,rfl,sm.seq hSb,eV (j:=m) (v:=.ref q) (by rw[aR,hq];rfl),D,q,_,_,rfl,rfl,gC,hqc,(by rw[eB,eB];show _<=2^24;lia),_,rfl,_,_,rfl,rfl,done++cell,m+1,_,rfl,sm.off hD,by rw[cV,jK],by rw[aC];lia,(),by rw[eS,bw]⟩⟩
  .obtain⟨q,rfl,_,hq⟩:=hv;have hFb:bb.length<=255:=rS;have eS:SH.fC (lp Ap) cs=done++(bb++SH.fC (lp (Ap.drop (i+1))) (cs.drop m)):=eS;exact⟨pa,C.piece,dx,_,_,rfl,fU,TP.cl,TP.fz,fu,rfl,false,fY (by show iD≠dD;decide+kernel),dB ⟨pa,C.piece,dx,_,_,rfl,fU,TP.cl,TP.fz,fu,rfl,true,kH rfl,dZ ⟨.inl ⟨rfl,_,cU.of gC⟩,pa,C.piece,dx,_,_,rfl,fU,TP.cl,TP.jz,jy,D,q,_,_,rfl,rfl,gC,hq,(by rw[eB,eB];show _<=2^24;lia),done++bb,m,_,rfl,sm.off hD,by rw[cV,jK],by rw[aC];lia,hm,by rw[eS,bw]⟩⟩⟩
  .have eS:SH.fC (lp Ap) cs=done++(37::SH.fC (lp (Ap.drop (i+1))) (cs.drop m)):=eS;exact⟨pa,C.piece,dx,_,_,rfl,fU,TP.cl,TP.fz,fu,rfl,false,fY (by show gf≠dD;decide+kernel),dB ⟨pa,C.piece,dx,_,_,rfl,fU,TP.cl,TP.fz,fu,rfl,false,fY (by show gf≠iD;decide+kernel),dB ⟨pa,C.piece,dx,_,_,rfl,fU,TP.cl,TP.fz,fu,rfl,true,kH rfl,dZ ⟨.inl ⟨rfl,_,cU.of gC⟩,D,_,_,rfl,rfl,gC,(by rw[eB];show _<2^24;lia),done++[37],m,_,rfl,sm.off hD,by rw[cV,jK];rfl,by rw[aC];show _+1<=_;lia,hm,by rw[eS,bw];rfl⟩⟩⟩⟩
  .have eS:SH.fC (lp Ap) cs=done++(46::SH.fC (lp (Ap.drop (i+1))) (cs.drop m)):=eS;exact⟨pa,C.piece,dx,_,_,rfl,fU,TP.cl,TP.fz,fu,rfl,false,fY (by show fB≠dD;decide+kernel),dB ⟨pa,C.piece,dx,_,_,rfl,fU,TP.cl,TP.fz,fu,rfl,false,fY (by show fB≠iD;decide+kernel),dB ⟨pa,C.piece,dx,_,_,rfl,fU,TP.cl,TP.fz,fu,rfl,false,fY (by show fB≠gf;decide+kernel),dB ⟨pa,C.piece,dx,_,_,rfl,fU,TP.cl,TP.fz,fu,rfl,true,kH rfl,dZ ⟨.inl ⟨rfl,_,cU.of gC⟩,D,_,_,rfl,rfl,gC,(by rw[eB];show _<2^24;lia),done++[46],m,_,rfl,sm.off hD,by rw[cV,jK];rfl,by rw[aC];show _+1<=_;lia,hm,by rw[eS,bw];rfl⟩⟩⟩⟩⟩
  .rw[k8]at eS;rw[aa n1]at hm;exact⟨pa,C.piece,dx,_,_,rfl,fU,TP.cl,TP.fz,fu,rfl,false,fY n1,dB ⟨pa,C.piece,dx,_,_,rfl,fU,TP.cl,TP.fz,fu,rfl,false,fY n2,dB ⟨pa,C.piece,dx,_,_,rfl,fU,TP.cl,TP.fz,fu,rfl,false,fY n3,dB ⟨pa,C.piece,dx,_,_,rfl,fU,TP.cl,TP.fz,fu,rfl,false,fY n4,dB ⟨done,m,_,rfl,sm,gC,(),hm,eS⟩⟩⟩⟩⟩
 .rintro σ H' ⟨done,m,v4,rfl,sm,gC,n9,hm,eS⟩;rw[az,hl,List.drop_length]at eS;have:SH.fC (lp Ap) cs=done:=by rw[eS];exact aU _
  rw[this]at k;exact(k D H' sm gC)
end
theorem A2.append{α β:Type}{R:α->β->Prop}:∀{xs:List α} {ys:List β} {wM:List α} {RY:List β},A2 R xs ys->A2 R wM RY->A2 R (xs++wM) (ys++RY)
 |_,_,_,_,.nil,h=>h
 |_,_,_,_,.cons a t,h=>.cons a (A2.append t h)
theorem KY:∀(i:Nat) (c:cS),(SH.g8 i c).length<=2*c.length
 |_,[]=>aI _
 |i,x::r=>by
  have:=KY i r;show(SH.nJ (i+r.length) x++SH.g8 i r).length<=_;rw[aC,aK];have:(SH.nJ (i+r.length) x).length<=2:=by
   unfold SH.nJ;split
   .exact aI 2
   .exact Nat.le_of_lt (by decide:1<2)
  lia
theorem LL:∀(cs:List cS) (L:Nat),(∀c∈cs,c.length<=200)->∀c∈SH.kE cs L,c.length<=400
 |[],_,_,c,h=>by cases h
 |x::cs,L,hc,c,h=>by
  rcases aN.mp h with rfl|h
  .have:=KY (L-x.length) x;have:=hc x aB;lia
  .exact LL cs _ (λc ia=>hc c (aA _ ia)) c h
def J1{g:Bool}{w ds:cS}(hd:ds.length<=90):∀c∈SH.jB g w ds,c.length<=600:=by
 have h1:∀c∈SH.jT w ds,c.length<=200:=λc hc=>by
  unfold SH.jT at hc;obtain⟨x,_,rfl⟩:=bJ.mp hc;exact Kp hd
 unfold SH.jB;split
 .exact λc hc=>aV (LL _ _ h1 c hc) ()
 .exact λc hc=>aV (h1 c hc) ()
theorem E_:∀(pl ds:cS),∀c∈SH.jq pl ds,c.length<=600
 |[],_,c,h=>by cases h
 |x::pl,ds,c,h=>by
  rcases aN.mp h with rfl|h
  .split
   .exact Nat.le_of_lt (by decide:1<600)
   .unfold SH.j8
    repeat' split
    all_goals decide
  .exact E_ pl _ c h
theorem Fb:∀(pl ds:cS),(SH.jq pl ds).length=pl.length
 |[],_=>rfl
 |x::pl,ds=>cI Nat.succ (Fb pl _)
def lH(A:List Pc)(w t:cS)(g:Bool)(r:Nat):cS:=SH.fC (lp A) (SH.jB g w (if w=[]then []else Sv68.bare (r/10^t.length))++SH.jq t (Sv68.padded t.length (r%10^t.length)))
def sN(w t:cS)(r:Nat):Bool:=decide (r%10^t.length=0)&&(decide (r/10^t.length=0)||decide (w=[]))
def vE(v1 v2:V):List (Str×V):=(eG "is_zero" v2 (eG "codes" v1 []))
def Dj{v1 v2:V}:(vE v1 v2).lookup ("codes":Str)=some v1:=by
 unfold vE;rw[eO,aa (),eO,ah rfl]
def IZ{v1 v2:V}:(vE v1 v2).lookup ("is_zero":Str)=some v2:=by
 unfold vE;rw[eO,ah rfl]
structure AO(K:b6)(C:Addr):Prop where
 cl:lq K C
 sr:gz K C "codes"
 Ef:gz K C "is_zero"
def ZR(C:Addr)(H:Hp)(a:Addr)(v1 v2:V):Prop:=∃dx,H a=some (.ins C dx (vE v1 v2))
abbrev KD:Stmt:=inClass (top 128) 0
inductive D9(C:Addr)(vs:List V)(H:Hp)(Q:VK)(z3:XK):Prop|m(p dx:Addr)(v1 v2:V)(_:vs=[.ref p,v1,v2])(_:H p=some (.ins C dx []))(_:Q .dI (upd H p (.ins C dx (vE v1 v2))))
def YQ:dP ["self","codes","is_zero"] ["self","codes","is_zero"] (c9 KD):=dW
def Y3{P:Program}{w:World}{K:b6}{mg:Str->Option Value}{base:Heap}{f C:Addr}(T:AO K C)(F:dM K "__init__" "Digits.__init__" KD f fd):dJ P w K mg base cY 1 f fd ["self","codes","is_zero"] (D9 C):=by
 refine F.oK YQ λc8 A outer s H vs Q E hr h=>?_;obtain⟨p,dx,v1,v2,rfl,hp,k⟩:=h;refine⟨_,(cW (iC (pv 0) (pv 1) rfl) (cX (iC (pv 0) (pv 2) rfl))),?_⟩;refine⟨p,C,dx,[],rfl,hp,T.cl,T.sr,(by show 0<1000;decide),?_⟩;refine⟨p,C,dx,_,rfl,cV,T.cl,T.Ef,(by show 1<1000;decide),?_⟩;rw[jd];exact k
inductive aJ0(CD:Addr)(H:Hp)(p:Addr)(b:cS)(z:Bool):Prop|m(q)(_:ZR CD H p (.ref q) (.bl z))(_:H q=some (.lst (bv b)))
def zy(CD:Addr)(H:Hp)(Q:VK)(b:cS)(z:Bool):Prop:=∀p H',cR H H'->aJ0 CD H' p b z->Q (.ref p) H'
section
abbrev BU:Stmt:=top 133
def Pz:dP ["layout","rounded","unit","whole","decimals","cells","is_zero"] ["layout","rounded"] (c9 BU):=dW
inductive F6(C:Cs)(CL CD:Addr)(vs:List V)(H:Hp)(Q:VK)(z3:XK):Prop|m(q H0 A X w t g fa di)(r:Nat)(_:vs=[.ref q,.int r])(_:qz C CL H0 H q A X w t g fa di)(_:w.length<=90)(_:t.length<=90)(_:gA A=w.length+t.length)(_:(∀p∈A,Named p))(_:(∀p∈A,iM p))(_:r<10^90)(_:zy CD H Q (lH A w t g r) (sN w t r))
def ay5{f CL CD:Addr}(T:TX P w K mg)(TL:r8 K CL)(j9:Own P w K mg base cY 1 "power" ["base","exponent"] sq)(Wn:Own P w K mg base cY 3 "whole_cells" ["layout","whole"] (Ou C CL))(VB:Own P w K mg base cY 3 "decimal_cells" ["places","decimals"] (O4 K))(VY:Own P w K mg base cY 1 "put_together" ["pieces","cells"] (OJ K C))(EG:jD P w K mg base cY 1 CD "Digits" ["self","codes","is_zero"] (D9 CD))(F:dM K "fill_in" "fill_in" BU f fd):dJ P w K mg base cY 4 f fd ["layout","rounded"] (F6 C CL CD):=by
 refine F.oK Pz λc8 A outer s H vs Q E hr h=>?_;obtain⟨q,H0,A',X,wl,t,g,fa,di,r,rfl,hL,nT,tH,zH,hN,hF,hrr,k⟩:=h;have nd:=Pz.nd;have iG:=hr.units;obtain⟨la,lx,lw,lb,n_,pR,⟨dx,h1⟩,h2,h3,h4,h5,h6,h7,h8,h9⟩:=hL.ex;obtain⟨t2,mR,main⟩:∃t2,gb (gJ cY P w K mg base ["layout","rounded","unit","whole","decimals","cells","is_zero"] "fill_in" (c9 BU) f c8 A outer s H E).jV ((gH BU).drop 5) t2/\∀(v1 v2 v3 v4:Option V) (p3:Addr) (qs:List Addr) (cs:List cS) (z:Bool) (H4:Hp),cR H H4->H4 p3=some (.lst (qs.map V.ref))->Cells H4 qs cs->cs.length=gA A'->(∀c∈cs,c.length<=600)->zy CD H Q (SH.fC (lp A') cs) z->t2 {nx:=λ_ H'=>Q .dI H',rt:=Q} [some (.ref q),v1,v2,v3,v4,some (.ref p3),some (.bl z)] H4:=by
  refine⟨_,(cX (dh (iQ EG hr (c_ (dF VY hr (c_ (dH (pv 0) rfl) (cT (pv 5)))) (cT (pv 6)))))),λv1 v2 v3 v4 p3 qs cs z H4 s4 gB hC iU H_ k=>?_⟩;refine⟨q,CL,dx,_,_,rfl,s4 _ _ h1,TL.cl,TL.sf,UW,la,n_,A',H0,p3,qs,cs,rfl,cU.of (s4 _ _ h2),h4,h3.same s4,hN,hF,cU.of gB,hC,iU,H_,λp5 H5 s5 pM=>?_⟩;refine(λx i_ hx eU dR=>?_);exact⟨x,i_,_,_,rfl,cV,rfl,k x _ ((s4.trans s5).ins hx eU) ⟨p5,⟨i_,cV⟩,((cR.refl H5).ins hx eU) _ _ pM⟩⟩
 refine⟨_,(cW (dN (i:=2) nd (dF j9 hr (c_ cZ (cT (eN fD rfl T.fq () (cT (dH (pv 0) rfl)))))))
  (cW (dN (i:=3) nd (dm AX (pv 1) (pv 2)))
  (cW (dN (i:=4) nd (dm kO (pv 1) (pv 2)))
  (cW (dN (i:=5) nd (dm ni (dF Wn hr (c_ (pv 0) (cT (pv 3)))) (dF VB hr (c_ (dH (pv 0) rfl) (cT (pv 4))))))
  (cW (dN (i:=6) nd (mC (fQ dU (pv 4) cZ) (kh (yG (fQ dU (pv 3) cZ) (kh (fQ (ql iG) (dH (pv 0) rfl) (fJ ir)))))))
  mR))))),?_⟩
 have eu:(10:Int)^t.length=((10^t.length:Nat):Int):=by rw[Int.natCast_pow];rfl
 have hU:10^t.length<2^900:=bB (bL () tH) ();have hU0:0<10^t.length:=Nat.pow_pos ();refine⟨q,CL,dx,_,_,rfl,h1,TL.cl,TL.vK,xR,lb,_,rfl,.inl (cU.of h9),10,t.length,by rw[eB];rfl,(),(),(),?_⟩;show qC _ _ _ [_,_,some (V.int ((10:Int)^t.length)),_,_,_,_] H;rw[eu];have HY:r%10^t.length<10^t.length:=Nat.mod_lt _ hU0;unfold lH sN at k;have Sq:r/10^t.length<10^90:=bB (Nat.div_le_self _ _) hrr;generalize hUU:10^t.length=U at*;have hU':(U:Int)<2^1000:=by
  have h9:(2:Nat)^900<=2^1000:=()
  exact_mod_cast bA hU h9
 refine⟨_,_,rfl,rfl,⟨(),hU'⟩,_,_,rfl,rfl,(by show(0:Int)<(U:Int);lia),?_⟩;show qC _ _ _ [_,_,_,some (V.int ((r/U:Nat):Int)),some (V.int ((r%U:Nat):Int)),_,_] H;generalize hwh:r/U=wh at*;generalize hde:r%U=de at*;refine⟨q,H0,A',X,wl,t,g,fa,di,wh,rfl,hL,nT,Sq,λp1 wW H1 s1 jW CM=>?_⟩;refine⟨q,CL,dx,_,_,rfl,s1 _ _ h1,TL.cl,TL.vK,xR,lb,t,de,rfl,cU.of (s1 _ _ h9),tH,by rw[hUU];exact HY,λp2 wV H2 s2 fS CK=>?_⟩;have aO2:=CM.length;have aO1:=CK.length;rw[SH.Av]at aO2;rw[Fb]at aO1;refine⟨p1,p2,_,_,rfl,rfl,s2 _ _ jW,fS,(by rw[az,az];show _<=2^24;lia),λp3 gB=>?_⟩;rw[<-bf];have s3:=cR.upd (o:=.lst ((wW++wV).map V.ref)) gB;have zX:Cells (upd H2 p3 (.lst ((wW++wV).map V.ref))) (wW++wV) (SH.jB g wl (if wl=[]then []else Sv68.bare wh)++SH.jq t (Sv68.padded t.length de)):=A2.append (CM.same (s2.trans s3)) (CK.same s3);have h33:upd H2 p3 (.lst ((wW++wV).map V.ref)) p3=some (.lst ((wW++wV).map V.ref)):=cV;generalize upd H2 p3 (.lst ((wW++wV).map V.ref))=H3 at*;have f9:=(s1.trans s2).trans s3;have main:=λ(z:Bool) (H4:Hp) (s4:cR H3 H4)=>main (some (.int (r:Nat))) (some (.int (U:Nat))) (some (.int (wh:Nat))) (some (.int (de:Nat))) p3 _ _ z H4 (f9.trans s4) (s4 _ _ h33) (zX.same s4) (by rw[aC,SH.Av,Fb];lia) (λc hc=>by
  rcases List.mem_append.mp hc with hc|hc
  .refine J1 ?_ c hc;split
   .decide
   .unfold Sv68.bare;split
    .decide
    .exact j7 () Sq
  .exact E_ _ _ c hc)
 refine⟨rfl,_,rfl,dw (λz1=>?_) (λz1=>?_)⟩
 .have y1:de=0:=by have:=V.int.inj (aj z1);lia
  rw[ak y1,aY]at k;refine⟨rfl,_,rfl,dw (λz2=>?_) (λz2=>?_)⟩
  .have y2:wh=0:=by have:=V.int.inj (aj z2);lia
   rw[ak y2,Bool.true_or]at k;exact main true H3 (cR.refl _) k
  .have y2:¬wh=0:=λy=>z2 (by rw[y];rfl);rw[ao y2,Bool.false_or]at k;refine⟨q,CL,dx,_,_,rfl,f9 _ _ h1,TL.cl,TL.yj,Ag,aP _,λp4 pN=>?_⟩;have s4:=cR.upd (o:=.lst []) pN;refine⟨_,_,iE (l:=bi wl) (cU.of (s4 _ _ (f9 _ _ h8))),iE (l:=[]) (cU.of cV),shaped_ints _,shaped_ints _,?_⟩;rw[mh,show([]:List Int)=bi []from rfl,bi_dec];exact main _ _ s4 k
 .have y1:¬de=0:=λy=>z1 (by rw[y];rfl);rw[ao y1,aZ]at k;exact main false H3 (cR.refl _) k
abbrev Rc:Stmt:=top 140
def PB:dP ["number","size","order"] ["number","size"] (c9 Rc):=dW
inductive OX(vs:List V)(H:Hp)(Q:VK)(z3:XK):Prop|m(n k:Nat)(_:vs=[.int n,.int k])(_:n<10^90)(_:0<k)(_:k<=90)(_:∀H',cR H H'->Q (.int (SH.jt n k)) H')
def ay6(T:TX P w K mg)(iz:Own P w K mg base cY 2 "digits_of" ["number","least"] oG)(F:dM K "find_exponent" "find_exponent" Rc f fd):dJ P w K mg base cY 3 f fd ["number","size"] OX:=by
 refine F.oK PB λc8 A outer s H vs Q E hr h=>?_;obtain⟨n,k,rfl,hn,HN,hk,kk⟩:=h;have nd:=PB.nd;refine⟨_,(cW (dO (dj dU (pv 0) cZ) (cX (dh cZ)) dX)
  (cW (dN (i:=2) nd (dm iI (dm iI (eN fD rfl T.fq () (cT (dF iz hr (c_ (pv 0) (cT cZ))))) cZ) (dG T.Kq)))
  (cX (dh (dm ki (dm mw (pv 2) (pv 1)) (pv 1)))))),?_⟩
 unfold SH.jt at kk;refine⟨rfl,_,rfl,dw (λz=>?_) (λz=>?_)⟩
 .have z1:n=0:=by have:=V.int.inj (aj z);lia
  rw[ah z1]at kk;exact kk H (cR.refl H)
 .have z1:¬n=0:=λy=>z (by rw[y];rfl);rw[aa z1]at kk;refine⟨n,1,rfl,hn,(),λp hp=>?_⟩;have ep:(bv (Sv68.padded 1 n)).length=(Sv68.decimal n).length:=by
   rw[eB,oh];have:=SH.xX n;lia
  refine⟨p,_,rfl,.inl (cU.of cV),_,_,rfl,rfl,_,_,rfl,rfl,_,_,rfl,rfl,⟨(),()⟩,_,_,rfl,rfl,.inr ⟨(),()⟩,?_⟩;have k2:=kk _ (cR.upd (o:=.lst (bv (Sv68.padded 1 n))) hp);rw[<-ep]at k2;exact k2
abbrev QW:Stmt:=top 141
def Pj:dP ["layout","number","exponent","scaled"] ["layout","number","exponent"] (c9 QW):=dW
inductive OI(C:Cs)(CL:Addr)(vs:List V)(H:Hp)(Q:VK)(z3:XK):Prop|m(q H0 A X w t g fa di)(n:Nat)(e:Int)(_:vs=[.ref q,.int n,.int e])(_:qz C CL H0 H q A X w t g fa di)(_:t.length<=90)(_:n<10^90)(_: -100<=e)(_:e<=100)(_:Q (.int (SH.mY t.length n e:Nat)) H)
def pow10(k:Nat):(10:Int)^k=((10^k:Nat):Int):=by rw[Int.natCast_pow];rfl
def aw9{f CL:Addr}(T:TX P w K mg)(TL:r8 K CL)(j9:Own P w K mg base cY 1 "power" ["base","exponent"] sq)(xP:Own P w K mg base cY 1 "round_halves_up" ["number","divisor"] BI)(F:dM K "round_by_exponent" "round_by_exponent" QW f fd):dJ P w K mg base cY 2 f fd ["layout","number","exponent"] (OI C CL):=by
 refine F.oK Pj λc8 A outer s H vs Q E hr h=>?_;obtain⟨q,H0,A',X,wl,t,g,fa,di,n,e,rfl,hL,tH,hn,xw,rQ,k⟩:=h;have nd:=Pj.nd;obtain⟨la,lx,lw,lb,n_,pR,⟨dx,h1⟩,h2,h3,h4,h5,h6,h7,h8,h9⟩:=hL.ex;refine⟨_,(cW (dN (i:=3) nd (dm MB (pv 1) (dF j9 hr (c_ cZ (cT (dm fL (eN fD rfl T.fq () (cT (dH (pv 0) rfl))) (eN (AK rfl) rfl T.wA () (c_ (sO sE (pv 2)) (cT cZ)))))))))
  (cX (dh (dF xP hr (c_ (pv 3) (cT (dm MB (dG T.wD) (dF j9 hr (c_ cZ (cT (eN (AK rfl) rfl T.wA () (c_ (pv 2) (cT cZ))))))))))))),?_⟩
 unfold SH.mY at k;have m1:(if(0:Int)> -e then(0:Int)else-e)=(((-e).toNat:Nat):Int):=by split<;>lia
 have m2:(if(0:Int)>e then(0:Int)else e)=((e.toNat:Nat):Int):=by split<;>lia
 have GG:∀j:Nat,j<=200->10^j<2^700:=λj hj=>bB (bL () hj) ();refine⟨q,CL,dx,_,_,rfl,h1,TL.cl,TL.vK,xR,lb,_,rfl,.inl (cU.of h9),_,rfl,_,_,rfl,_,_,rfl,rfl,10,t.length+(-e).toNat,?_,(),(),(),_,_,rfl,rfl,⟨?_,?_⟩,?_⟩
 .rw[m1,eB,Int.natCast_add];rfl
 .rw[Int.natAbs_natCast];exact bh hn ()
 .rw[pow10,Int.natAbs_natCast];exact bh (GG _ ()) ()
 refine⟨_,_,rfl,10,e.toNat,?_,(),(),(),_,_,rfl,rfl,⟨(),?_⟩,n*10^(t.length+(-e).toNat),10^12*10^e.toNat,?_,Nat.mul_pos () (Nat.pow_pos ()),?_,k⟩
 .rw[m2];rfl
 .rw[pow10,Int.natAbs_natCast];exact bh (GG _ ()) ()
 .rw[Int.natCast_mul,<-pow10,Int.natCast_mul,<-pow10];rfl
 .rw[<-Nat.pow_add];have:10^(12+e.toNat)<2^700:=GG _ ()
  exact_mod_cast bh this ()
end
def Yd(X:List Pc):(X.filter λp=>decide (p.name=dD)).length=gA X:=by
 induction X with
 |nil=>rfl
 |cons p X ih=>
  rw[List.filter_cons,AY]
  by_cases h:p.name=dD
  .rw[ak h,ah rfl,ah h,aK,ih]
  .rw[ao h,aa (),aa h,ih];rfl
section
abbrev BV:Stmt:=top 142
def PD:dP ["layout","exponent","sign","zeros","piece"] ["layout","exponent"] (c9 BV):=dW
def lK(c:UInt8)(z:Nat)(e:Int):cS:=69::((if e<0 then [45]else if c=43 then [43]else [])++Sv68.padded z e.natAbs)
inductive OY(C:Cs)(CL:Addr)(vs:List V)(H:Hp)(Q:VK)(z3:XK):Prop|m(q H0 A X w t g fa di)(c:UInt8)(e:Int)(_:vs=[.ref q,.int e])(_:qz C CL H0 H q A (.exponent c::X) w t g fa di)(_:gA X<=3)(_: -1000<=e)(_:e<=1000)(_:jE H Q (lK c (gA X) e))
def ay7{f CL:Addr}(T:TX P w K mg)(TP:lB K C.piece)(TL:r8 K CL)(iz:Own P w K mg base cY 2 "digits_of" ["number","least"] oG)(F:dM K "exponent_codes" "exponent_codes" BV f fd):dJ P w K mg base cY 3 f fd ["layout","exponent"] (OY C CL):=by
 refine F.oK PD λc8 A outer s H vs Q E hr h=>?_;obtain⟨q,H0,A',X,wl,t,g,fa,di,c,e,rfl,hL,hX,xw,rQ,k⟩:=h;have nd:=PD.nd;obtain⟨la,lx,lw,lb,n_,pR,⟨dx,h1⟩,h2,h3,h4,h5,h6,h7,h8,h9⟩:=hL.ex;unfold lK at k;obtain⟨t2,mR,main⟩:∃t2,gb (gJ cY P w K mg base ["layout","exponent","sign","zeros","piece"] "exponent_codes" (c9 BV) f c8 A outer s H E).jV ((gH BV).drop 2) t2/\∀(ps:Addr) (sg:cS) (G:Hp),cR H G->G ps=some (.lst (bv sg))->sg.length<=1->jE H Q (69::(sg++Sv68.padded (gA X) e.natAbs))->t2 {nx:=λ_ H'=>Q .dI H',rt:=Q} [some (.ref q),some (.int e),some (.ref ps),none,none] G:=by
  refine⟨_,(cW (l_ (i:=3) rfl nd rfl rfl (lD rfl rfl rfl rfl) (gR (dH (pv 0) rfl)) (iA (N:=["layout","exponent","sign","zeros","piece"]) (sc:=c9 (top 142)) (own:=[("piece",4)]) ()) (λ_ _ _ _ _=>fF (i:=4) nd (.inr rfl)) (λ_ _ _ _ _=>(mj (dj dU (show PE _ _ (gT K _ "name")from dH (pv 4) rfl) eH))) (λ_ _ _ _ _=>(pv 4)))
  (cX (dh (dm ni (dm ni (fJ (cT (dG T.K8))) (pv 2)) (dF iz hr (c_ (eN A1 rfl T.BL () (cT (pv 1))) (cT (eN fD rfl T.fq () (cT (pv 3)))))))))),λps sg G s1 hps hsg k=>?_⟩
  have Tj:=h6.same s1;refine⟨q,CL,dx,_,_,rfl,s1 _ _ h1,TL.cl,TL.Ay,Df,lx,rfl,⟨_,cU.of (s1 _ _ h5)⟩,λD hD=>i6 (λx=>if dQ G "name" x= .str "place" then some x else none) (cU.of (s1 _ _ h5)) hD (by rw[az];lia) ?_ ?_⟩
  .intro x H' hx sm Q1 Q2 g1 g2;obtain⟨b,p,e,rfl,hm,hp⟩:=Tj.mem hx;obtain⟨v,dx,hb,hv,f1,f2⟩:=hp.fields;rw[f1]at g1 g2;exact⟨rfl,b,C.piece,dx,_,_,rfl,sm _ _ hb,TP.cl,TP.fz,fu,rfl,_,rfl,dw (λz=>(g1 _ (ah (aj z)))) λz=>g2 (aa λy=>z (ak y))⟩
  .obtain⟨lZ,e1,hP'⟩:=Ps.GP (c:=λp=>decide (p.name=dD)) (sel:=λx=>if dQ G "name" x= .str "place" then some x else none) (λb p e _ hp=>by
    obtain⟨v,dx,hb,hv,f1,f2⟩:=hp.fields;show(if dQ G "name" (.ref b)= .str "place" then some (V.ref b)else none)=_;rw[f1]
    by_cases h:p.name=dD
    .rw[ak h,ah (by rw[h]),ah rfl]
    .rw[ao h,aa (λz=>h (V.str.inj z)),aa ()]) Tj
   rw[e1];have ln:lZ.length=gA X:=by
    rw[hP'.length,Yd,AY,aa (by show fc≠dD;decide+kernel)];rfl
   have sD:=cR.upd (o:=.lst (lZ.map V.ref)) hD;have CJ:upd G D (.lst (lZ.map V.ref)) D=some (.lst (lZ.map V.ref)):=cV;generalize upd G D (.lst (lZ.map V.ref))=G1 at*;refine⟨(by show 1<=2^24;decide),λp1 jW=>?_⟩;have s2:=cR.upd (o:=.lst [V.int 69]) jW;refine⟨p1,ps,_,_,rfl,rfl,cV,(sD.trans s2) _ _ hps,(by rw[eB];show 1+_<=2^24;lia),λp2 fS=>?_⟩;rw[show [V.int 69]++bv sg=bv (69::sg)from rfl];have s3:=cR.upd (o:=.lst (bv (69::sg))) fS;have h22:upd (upd G1 p1 (.lst [V.int 69])) p2 (.lst (bv (69::sg))) p2=some (.lst (bv (69::sg))):=cV;generalize upd (upd G1 p1 (.lst [V.int 69])) p2 (.lst (bv (69::sg)))=G3 at*;have R3:=s2.trans s3;refine⟨e,rfl,D,_,rfl,.inl (cU.of (R3 _ _ CJ)),e.natAbs,gA X,?_,?_,(),λp4 pN=>?_⟩
   .rw[az,ln,show((e.natAbs:Nat):Int)=if e<0 then-e else e by split<;>lia];rfl
   .exact bh (show e.natAbs<10000 by lia) ()
   .have s5:=cR.upd (o:=.lst (bv (Sv68.padded (gA X) e.natAbs))) pN;refine⟨p2,p4,_,_,rfl,rfl,s5 _ _ h22,cV,?_,λp5 pM=>?_⟩
    .rw[eB,eB,oh,aK];have:=j7 (k:=4) () (show e.natAbs<10^4 by lia);show _<=2^24;lia
    .rw[<-jK];exact k.new ((s1.trans (sD.trans R3)).trans s5) p5 pM
 refine⟨_,(cW (dN (i:=2) nd (fJ ir))
  (cW (dO (dj jg (pv 1) cZ) (cX (dN (i:=2) nd (fJ (cT (dG T.Bo))))) (cX (dO (dj dU (dH (fM fW (dH (pv 0) rfl) cZ (λ_ _=>rfl)) rfl) (dG T.FT)) (cX (dN (i:=2) nd (fJ (cT (dG T.FT))))) dX)))
  mR)),?_⟩
 refine⟨aP _,λp0 hp0=>?_⟩;have s0:=cR.upd (o:=.lst []) hp0;rcases Int.lt_or_le e 0 with he|he
 .rw[ah he]at k;exact⟨_,_,rfl,rfl,true,cI V.bl (ak he),dZ ⟨(by show 1<=2^24;decide),λp1 jW=>main p1 [45] _ (s0.trans (cR.upd jW)) cV () k⟩⟩
 .rw[aa ()]at k;cases h6 with
  |@cons b p as ps r tl=>
   obtain⟨en,rO⟩:=r;obtain⟨v,xE,hb,hv,f1,f2⟩:=rO.fields;have hv:v= .int c.toNat:=hv;subst hv;refine⟨_,_,rfl,rfl,false,cI V.bl (ao ()),dB ⟨q,CL,dx,_,_,rfl,s0 _ _ h1,TL.cl,TL.Ay,Df,lx,_,_,_,rfl,rfl,cU.of (s0 _ _ h5),eV (j:=0) (v:=.ref b) rfl,b,C.piece,xE,_,_,rfl,s0 _ _ hb,TP.cl,TP.jz,jy,rfl,_,rfl,dw (λz=>?_) (λz=>?_)⟩⟩
   .have z1:c=43:=iu.mpr (V.int.inj (aj z));rw[ah z1]at k;exact⟨(by show 1<=2^24;decide),λp1 jW=>main p1 [43] _ (s0.trans (cR.upd jW)) cV () k⟩
   .have z1:¬c=43:=λy=>z (by rw[y];rfl);rw[aa z1]at k;exact main p0 [] _ s0 cV () k
end
def lM(ds:cS):cS:=(ds.reverse.dropWhile λc=>c==48).reverse
def ae6(r:cS):lM (r++[48])=lM r:=by
 unfold lM;rw[cB,List.reverse_singleton,List.singleton_append,bU,ah ()]
def Zv{r:cS}{c:UInt8}(h:¬c=48):lM (r++[c])=r++[c]:=by
 unfold lM;rw[cB,List.reverse_singleton,List.singleton_append,bU,aa (by simpa using h),List.reverse_cons,List.reverse_reverse]
section
abbrev Rm:Stmt:=top 143
def PL:dP ["number","digits","decimals"] ["number"] (c9 Rm):=dW
inductive F8(vs:List V)(H:Hp)(Q:VK)(z3:XK):Prop|m(n:Nat)(_:vs=[.int n])(_:n<10^90)(_:jE H Q (generalOf n))
def az5(T:TX P w K mg)(iz:Own P w K mg base cY 2 "digits_of" ["number","least"] oG)(F:dM K "as_it_is" "as_it_is" Rm f fd):dJ P w K mg base cY 3 f fd ["number"] F8:=by
 refine F.oK PL λc8 A outer s H vs Q E hr h=>?_;obtain⟨n,rfl,hn,k⟩:=h;have nd:=PL.nd;have iG:=hr.units;have hw:n/10^12<10^90:=bB (Nat.div_le_self _ _) hn;have hd:n%10^12<10^12:=Nat.mod_lt _ ();have ew:Sv68.padded 1 (n/10^12)=Sv68.decimal (n/10^12):=by
  unfold Sv68.padded;have:=SH.xX (n/10^12);rw[show 1-(Sv68.decimal (n/10^12)).length=0 by lia];rfl
 have nT:(Sv68.decimal (n/10^12)).length<=90:=j7 () hw;have n9:(Sv68.padded 12 (n%10^12)).length=12:=Eb () hd;have k:jE H Q (Sv68.decimal (n/10^12)++(if lM (Sv68.padded 12 (n%10^12))=[]then []else 46::lM (Sv68.padded 12 (n%10^12)))):=k;refine⟨_,(cW (dN (i:=1) nd (dF iz hr (c_ (dm AX (pv 0) (dG T.wD)) (cT cZ))))
  (cW (dN (i:=2) nd (dF iz hr (c_ (dm kO (pv 0) (dG T.wD)) (cT (dG T.Kq)))))
  (cW (r_ cA (PW.pt (nh (dj (Fy iG) (pv 2) (fJ ir)) (m6 (dj dU (fM fW (pv 2) (sO sE cZ) (λ_ _=>rfl)) (dG T.sJ))))) (cX (iO (au9 b7 PySem.F.slot_list_pop PySem.F.type_list_pop aA3 (pv 2)))))
  (cX (dh (gD (dj (Fy iG) (pv 2) (fJ ir)) (dm ni (dm ni (pv 1) (fJ (cT (dG T.yp)))) (pv 2)) (pv 1))))))),?_⟩
 refine⟨_,_,rfl,rfl,⟨(),()⟩,n/10^12,1,rfl,hw,(),λp1 jW=>?_⟩;rw[ew];have s1:=cR.upd (o:=.lst (bv (Sv68.decimal (n/10^12)))) jW;have Tr:upd H p1 (.lst (bv (Sv68.decimal (n/10^12)))) p1=some (.lst (bv (Sv68.decimal (n/10^12)))):=cV;generalize upd H p1 (.lst (bv (Sv68.decimal (n/10^12))))=G1 at*;refine⟨_,_,rfl,rfl,(by show(0:Int)<_;decide),n%10^12,12,rfl,bh hd (),(),λp2 fS=>?_⟩;have aN2:H p2=none:=s1.free fS;have aN3:p1≠p2:=fE Tr fS;have s2:=cR.upd (o:=.lst (bv (Sv68.padded 12 (n%10^12)))) fS;generalize Sv68.padded 12 (n%10^12)=Tv at*;generalize Sv68.decimal (n/10^12)=wh at*;refine⟨λm σ H'=>∃ds:cS,σ=[some (.int (n:Nat)),some (.ref p1),some (.ref p2)]/\cR H H'/\H' p1=some (.lst (bv wh))/\H' p2=some (.lst (bv ds))/\ds.length=m/\ds.length<=12/\lM ds=lM Tv,⟨_,Tv,rfl,s1.trans s2,s2 _ _ Tr,cV,rfl,(),rfl⟩,?_⟩;rintro m σ H' ⟨ds,rfl,sm,aN4,RA,rfl,hl,hc⟩;have last:∀(H3:Hp),cR H H3->H3 p1=some (.lst (bv wh))->H3 p2=some (.lst (bv ds))->lM ds=ds->yS (GY (yD (qI (Rt K) (iL 2) (Gn nI))) (qI Gr (qI Gr (iL 1) (Gn (kP (tC (.int 46)) nI))) (iL 2)) (iL 1)) {nx:=λ_ H'=>Q .dI H',rt:=Q} [some (.int (n:Nat)),some (.ref p1),some (.ref p2)] H3:=by
  intro H3 f9 h1 h2 lX;rw[<-hc,lX]at k;refine⟨aP _,λp3 gB=>?_⟩;have s3:=cR.upd (o:=.lst []) gB;refine⟨_,_,iE (l:=bi ds) (cU.of (s3 _ _ h2)),iE (l:=[]) (cU.of cV),shaped_ints _,shaped_ints _,_,rfl,?_⟩;rw[mh,show([]:List Int)=bi []from rfl,bi_dec]
  by_cases he:ds=[]
  .rw[ah he,aU]at k;rw[ak he];exact dB (k p1 _ (f9.trans s3) (s3 _ _ h1))
  .rw[aa he]at k;rw[ao he];refine dZ ⟨(by show 1<=2^24;decide),λp4 pN=>?_⟩;have s4:=cR.upd (o:=.lst [V.int 46]) pN;refine⟨p1,p4,_,_,rfl,rfl,s4 _ _ (s3 _ _ h1),cV,(by rw[eB];show _+1<=2^24;lia),λp5 pM=>?_⟩;rw[show bv wh++[V.int 46]=bv (wh++[46])from(jK wh [46]).symm];have s5:=cR.upd (o:=.lst (bv (wh++[46]))) pM;refine⟨p5,p2,_,_,rfl,rfl,cV,s5 _ _ (s4 _ _ (s3 _ _ h2)),(by rw[eB,eB,aC];show _+1+_<=2^24;lia),λp6 Cu=>?_⟩;rw[<-jK,bw];exact k.new (((f9.trans s3).trans s4).trans s5) p6 Cu
 refine⟨aP _,λp3 gB=>?_⟩;have s3:=cR.upd (o:=.lst []) gB;refine⟨_,_,iE (l:=bi ds) (cU.of (s3 _ _ RA)),iE (l:=[]) (cU.of cV),shaped_ints _,shaped_ints _,_,rfl,?_⟩;rw[mh,show([]:List Int)=bi []from rfl,bi_dec];have f9:=sm.trans s3;have CT:=s3 _ _ aN4;have z0:=s3 _ _ RA;generalize upd H' p3 (.lst [])=H3 at*;rcases bW ds with rfl|⟨r,c,rfl⟩
 .exact dB (dB (last H3 f9 CT z0 rfl))
 .rw[bX]at*;rw[ao (by simp)];refine dZ ⟨1,rfl,p2,_,_,_,rfl,rfl,cU.of z0,(by rw[jK];exact L_ _ _),rfl,_,rfl,dw (λz=>?_) (λz=>?_)⟩
  .have z1:c=48:=iu.mpr (V.int.inj (aj z));subst z1;rw[aC]at hl;refine⟨_,λσ' H' z=>z,.inl ⟨rfl,_,cU.of z0⟩,p2,_,V.int 48,rfl,rfl,z0,?_,r.length,?_,r,rfl,f9.off aN2,by rw[eK aN3];exact CT,?_,rfl,?_,?_⟩
   .rw[jK,aC,show(bv r).length+(bv [48]).length-1=(bv r).length from rfl,bN (aI _),Nat.sub_self];rfl
   .rw[aC];exact Nat.lt_succ_self _
   .rw[cV,jK,show bv [48]=[V.int 48]from rfl,List.dropLast_concat]
   .lia
   .rw[<-hc,ae6]
  .have z1:¬c=48:=λy=>z (by rw[y];rfl);exact last H3 f9 CT z0 (Zv z1)
end
def Ka{z k:Nat}(hk:0<k)(hk2:k<=24)(h1:z<10^60): -36<=SH.jt z k/\SH.jt z k<=60:=by
 unfold SH.jt
 by_cases hz:z=0
 .rw[ah hz];lia
 rw[aa hz];have hl:=j7 (k:=60) () h1;have h0:=SH.xX z;generalize (Sv68.decimal z).length=n at*;have rP:(0:Int)<(k:Int):=();have m1:=Int.emod_add_mul_ediv ((n:Int)-1-12) (k:Int);have m2:=Int.emod_lt_of_pos ((n:Int)-1-12) rP;have m3:=Int.emod_nonneg ((n:Int)-1-12) (show(k:Int)≠0 by lia);rw[Int.mul_comm]at m1;generalize ((n:Int)-1-12)/(k:Int)*(k:Int)=e at*;lia
def AD{d k z:Nat}{e:Int}(hk:0<k)(he:SH.jt z k<=e):SH.mY d z e<=10^(k+d):=by
 unfold SH.mY;unfold SH.jt at he
 by_cases hz:z=0
 .subst hz;refine SH.Ax (Nat.mul_pos (Nat.pow_pos ()) (Nat.pow_pos ())) ?_;rw[Nat.zero_mul];exact aP _
 rw[aa hz]at he;have eF:=SH.DX z;generalize (Sv68.decimal z).length=n at*;have rP:(0:Int)<(k:Int):=();have m1:=Int.emod_add_mul_ediv ((n:Int)-1-12) (k:Int);have m2:=Int.emod_lt_of_pos ((n:Int)-1-12) rP;have m3:=Int.emod_nonneg ((n:Int)-1-12) (show(k:Int)≠0 by lia);rw[Int.mul_comm]at m1;generalize ((n:Int)-1-12)/(k:Int)*(k:Int)=e' at*;refine SH.Ax (Nat.mul_pos (Nat.pow_pos ()) (Nat.pow_pos ())) ?_;refine aV (Nat.mul_le_mul_right _ (Nat.le_of_lt eF)) ?_;rw[<-Nat.pow_add,<-Nat.pow_add,<-Nat.pow_add];exact SH.vX ()
theorem Mx:∀(A:List Pc) (cs:List cS),(∀p∈A,Named p)->(∀p∈A,iM p)->(∀c∈cs,c.length<=600)->(SH.fC (lp A) cs).length<=600*A.length
 |[],_,_,_,_=>aI _
 |p::A,cs,hN,hF,hc=>by
  have ih:=λcs hc=>Mx A cs (λq hq=>hN q (aA _ hq)) (λq hq=>hF q (aA _ hq)) hc;rw[aK];rcases Ga (hN p aB)with⟨c,rfl⟩|⟨bb,rfl⟩|⟨c,rfl⟩|⟨c,rfl⟩|⟨_,k8⟩
  .show(cs.headD []++SH.fC (lp A) (cs.drop 1)).length<=_;have:=ih (cs.drop 1) λc ia=>hc c (List.mem_of_mem_drop ia);have:(cs.headD []).length<=600:=by
    cases cs with
    |nil=>exact aP _
    |cons x _=>exact hc x aB
   rw[aC];lia
  .show(bb++SH.fC (lp A) cs).length<=_;have:=ih cs hc;have:bb.length<=255:=hF _ aB;rw[aC];lia
  .show(37::SH.fC (lp A) cs).length<=_;have:=ih cs hc;rw[aK];lia
  .show(46::SH.fC (lp A) cs).length<=_;have:=ih cs hc;rw[aK];lia
  .rw[k8];have:=ih cs hc;lia
def Ek{A:List Pc}{w t:cS}{g:Bool}{r:Nat}(hN:∀p∈A,Named p)(hF:∀p∈A,iM p)(hr:r<10^90):(lH A w t g r).length<=600*A.length:=by
 unfold lH;refine Mx A _ hN hF λc hc=>?_;rcases List.mem_append.mp hc with hc|hc
 .refine J1 ?_ c hc;split
  .decide
  .unfold Sv68.bare;split
   .decide
   .exact j7 () (bB (Nat.div_le_self _ _) hr)
 .exact E_ _ _ c hc
section
abbrev BR:Stmt:=top 139
def O_:dP ["layout","number","size","exponent","rounded","shown"] ["layout","number"] (c9 BR):=dW
inductive Ow(C:Cs)(CL CD:Addr)(vs:List V)(H:Hp)(Q:VK)(z3:XK):Prop|m(q H0 A X w t g fa di)(n:Nat)(c:UInt8)(_:vs=[.ref q,.int n])(_:qz C CL H0 H q A (.exponent c::X) w t g fa di)(_:gA X<=3)(_:0<w.length)(_:w.length<=24)(_:t.length<=12)(_:gA A=w.length+t.length)(_:A.length<=300)(_:(∀p∈A,Named p))(_:(∀p∈A,iM p))(_:n<10^60)(_:zy CD H Q (lH A w t g (SH.lJ t.length w.length n).2++lK c (gA X) (SH.lJ t.length w.length n).1) (sN w t (SH.lJ t.length w.length n).2))
def av7{f CL CD:Addr}(T:TX P w K mg)(TL:r8 K CL)(TD:AO K CD)(VA:Own P w K mg base cY 3 "find_exponent" ["number","size"] OX)(IX:Own P w K mg base cY 2 "round_by_exponent" ["layout","number","exponent"] (OI C CL))(j9:Own P w K mg base cY 1 "power" ["base","exponent"] sq)(Eo:Own P w K mg base cY 4 "fill_in" ["layout","rounded"] (F6 C CL CD))(Va:Own P w K mg base cY 3 "exponent_codes" ["layout","exponent"] (OY C CL))(EG:jD P w K mg base cY 1 CD "Digits" ["self","codes","is_zero"] (D9 CD))(F:dM K "show_with_exponent" "show_with_exponent" BR f fd):dJ P w K mg base cY 5 f fd ["layout","number"] (Ow C CL CD):=by
 refine F.oK O_ λc8 A outer s H vs Q E hr h=>?_;obtain⟨q,H0,A',X,wl,t,g,fa,di,n,c,rfl,hL,hX,w_,hw,ht,zH,hA3,hN,hF,hn,k⟩:=h;have nd:=O_.nd;obtain⟨la,lx,lw,lb,n_,pR,⟨dx,h1⟩,h2,h3,h4,h5,h6,h7,h8,h9⟩:=hL.ex;obtain⟨f1,f2⟩:=Ka w_ hw hn;have Hi:n<10^90:=bh hn ();have zq:10^(wl.length+t.length)<10^90:=Nat.pow_lt_pow_right () ();obtain⟨t2,mR,main⟩:∃t2,gb (gJ cY P w K mg base ["layout","number","size","exponent","rounded","shown"] "show_with_exponent" (c9 BR) f c8 A outer s H E).jV ((gH BR).drop 4) t2/\∀(v1 v2:Option V) (e:Int) (r:Nat) (G:Hp),cR H G->-1000<=e->e<=1000->r<10^90->zy CD H Q (lH A' wl t g r++lK c (gA X) e) (sN wl t r)->t2 {nx:=λ_ H'=>Q .dI H',rt:=Q} [some (.ref q),v1,v2,some (.int e),some (.int (r:Nat)),none] G:=by
  refine⟨_,(cW (dN (i:=5) nd (dF Eo hr (c_ (pv 0) (cT (pv 4)))))
  (cX (dh (iQ EG hr (c_ (dm ni (dH (pv 5) rfl) (dF Va hr (c_ (pv 0) (cT (pv 3))))) (cT (dH (pv 5) rfl))))))),λv1 v2 e r G s1 e1 e2 xg k=>?_⟩
  refine⟨q,H0,A',_,wl,t,g,fa,di,r,rfl,hL.same s1,(),(),zH,hN,hF,xg,λpd H2 s2 hD=>?_⟩;obtain⟨pc,⟨xG,kI⟩,hd2⟩:=hD;refine⟨pd,CD,xG,_,_,rfl,kI,TD.cl,TD.sr,Dj,q,H0,A',X,wl,t,g,fa,di,c,e,rfl,hL.same (s1.trans s2),hX,e1,e2,λpe H3 s3 hpe=>?_⟩;have le:(lK c (gA X) e).length<=100:=by
   unfold lK;rw[aK,aC,oh];have:=j7 (k:=4) () (show e.natAbs<10^4 by lia);have:(if e<0 then [45]else if c=43 then [43]else []:cS).length<=1:=by
    split
    .decide
    .split<;>decide
   lia
  have lf:=Ek (A:=A') (w:=wl) (t:=t) (g:=g) hN hF xg;refine⟨pc,pe,_,_,rfl,rfl,s3 _ _ hd2,hpe,(by rw[eB,eB];show _<=2^24;lia),λp4 pN=>?_⟩;rw[<-jK];have s4:=cR.upd (o:=.lst (bv (lH A' wl t g r++lK c (gA X) e))) pN;have tW:upd H3 p4 (.lst (bv (lH A' wl t g r++lK c (gA X) e))) p4=some (.lst (bv (lH A' wl t g r++lK c (gA X) e))):=cV;generalize upd H3 p4 (.lst (bv (lH A' wl t g r++lK c (gA X) e)))=H4 at*;refine⟨pd,CD,xG,_,_,rfl,(s3.trans s4) _ _ kI,TD.cl,TD.Ef,IZ,λx i_ hx eU dR=>?_⟩;exact⟨x,i_,_,_,rfl,cV,rfl,k x _ ((((s1.trans s2).trans s3).trans s4).ins hx eU) ⟨p4,⟨i_,cV⟩,((cR.refl H4).ins hx eU) _ _ tW⟩⟩
 refine⟨_,(cW (dN (i:=2) nd (eN fD rfl T.fq () (cT (dH (pv 0) rfl))))
  (cW (dN (i:=3) nd (dF VA hr (c_ (pv 1) (cT (pv 2)))))
  (cW (dN (i:=4) nd (dF IX hr (c_ (pv 0) (c_ (pv 1) (cT (pv 3))))))
  (cW (dO (dj dU (pv 4) (dF j9 hr (c_ cZ (cT (dm fL (pv 2) (eN fD rfl T.fq () (cT (dH (pv 0) rfl)))))))) (cW (mz (i:=3) nd rfl (Or.inl rfl) (pv 2) qm)
  (cX (dN (i:=4) nd (dF IX hr (c_ (pv 0) (c_ (pv 1) (cT (pv 3)))))))) dX)
  mR)))),?_⟩
 refine⟨q,CL,dx,_,_,rfl,h1,TL.cl,TL.yj,Ag,lw,_,rfl,.inl (cU.of h8),?_⟩;show qC _ _ _ [_,_,some (V.int (((bv wl).length:Nat):Int)),_,_,_] H;rw[eB];refine⟨n,wl.length,rfl,Hi,w_,(),λH1 s1=>?_⟩;have r0:=AD (d:=t.length) (k:=wl.length) (z:=n) w_ (Int.le_refl _);unfold SH.lJ at k;dsimp only at k;refine⟨q,H0,A',_,wl,t,g,fa,di,n,SH.jt n wl.length,rfl,hL.same s1,(),Hi,(),(),?_⟩;refine⟨q,CL,dx,_,_,rfl,s1 _ _ h1,TL.cl,TL.vK,xR,lb,_,rfl,.inl (cU.of (s1 _ _ h9)),_,_,rfl,rfl,10,wl.length+t.length,by rw[eB,Int.natCast_add];rfl,(),(),(),rfl,?_⟩;rw[pow10]
 by_cases hq:SH.mY t.length n (SH.jt n wl.length)=10^(wl.length+t.length)
 .rw[ah hq]at k;refine⟨true,cI V.bl (ak (by rw[hq])),dZ ⟨_,rfl,_,_,rfl,rfl,?_⟩⟩;refine⟨q,H0,A',_,wl,t,g,fa,di,n,SH.jt n wl.length+(wl.length:Int),rfl,hL.same s1,(),Hi,(),(),?_⟩;have r1:=AD (d:=t.length) (k:=wl.length) (z:=n) (e:=SH.jt n wl.length+(wl.length:Int)) w_ ();exact main _ _ (SH.jt n wl.length+(wl.length:Int)) _ H1 s1 () () (bB r1 zq) k
 .rw[aa hq]at k;refine⟨false,cI V.bl (ao λy=>hq (by exact_mod_cast V.int.inj y)),dB ?_⟩;exact main _ _ (SH.jt n wl.length) _ H1 s1 () () (bB r0 zq) k
end
def nN:Pc->Option UInt8
 | .sign nm c=>if nm=dD then some c else none
 |_=>none
abbrev eL(ps:List Pc):cS:=ps.filterMap nN
def Lu{p:Pc}(hn:Named p):(p.name=dD/\∃c,p= .sign dD c)\/(p.name≠dD/\nN p=none):=by
 rcases Ga hn with⟨c,rfl⟩|⟨bb,rfl⟩|⟨c,rfl⟩|⟨c,rfl⟩|⟨⟨n1,_⟩,_⟩
 .exact .inl ⟨rfl,c,rfl⟩
 .exact .inr ⟨by show iD≠dD;decide+kernel,rfl⟩
 .exact .inr ⟨by show gf≠dD;decide+kernel,rfl⟩
 .exact .inr ⟨by show fB≠dD;decide+kernel,rfl⟩
 .refine .inr ⟨n1,?_⟩;cases p with
  |sign nm c=>exact aa n1
  |_=>rfl
abbrev Fv(H:Hp)(x:V):Option V:=if dQ H "name" x= .str "place" then some (dQ H "value" x)else none
def KH{H0 H:Hp}{as:List Addr}{ps:List Pc}(hP:Ps C H0 H as ps)(hN:∀p∈ps,Named p):(as.map V.ref).filterMap (Fv H)=bv (eL ps):=by
 rw[Ps.fmap (g:=λp=>(nN p).map λc=>V.int (c.toNat:Int)) (λa p e hm hp=>by
  obtain⟨v,dx,h1,h2,f1,f2⟩:=hp.fields;show(if dQ H "name" (.ref a)= .str "place" then some (dQ H "value" (.ref a))else none)=_;rw[f1,f2];rcases Lu (hN p hm)with⟨_,c,rfl⟩|⟨h,e⟩
  .have h2:v= .int c.toNat:=h2;have e1:nN (.sign dD c)=some c:=by show(if dD=dD then some c else none)=some c;exact ah rfl
   rw[h2,e1];exact ah rfl
  .rw[aa λz=>h (V.str.inj z),e];rfl) hP]
 clear hP hN
 induction ps with
 |nil=>rfl
 |cons p ps ih=>
  rw[aJ];show _=bv (List.filterMap nN (p::ps));rw[aJ];cases h:nN p with
  |none=>exact ih
  |some c=>
   show V.int _::_=bv (c::_);rw[ih];rfl
def EA{ps:List Pc}(hN:∀p∈ps,Named p):(eL ps).length=gA ps:=by
 induction ps with
 |nil=>rfl
 |cons p ps ih=>
  have ih:=ih λq hq=>hN q (aA _ hq);rw[AY];show(List.filterMap nN (p::ps)).length=_;rw[aJ];rcases Lu (hN p aB)with⟨_,c,rfl⟩|⟨h,e⟩
  .have e1:nN (.sign dD c)=some c:=by show(if dD=dD then some c else none)=some c;exact ah rfl
   rw[e1,ah (show(Pc.sign dD c).name=dD from rfl)];show(eL ps).length+1=_;rw[ih]
  .rw[e,aa h];exact ih
theorem LN{x:Str}:∀{l:List Str},x∈l->∃u v,l=u++x::v/\∀y∈u,y≠x
 |[],h=>by cases h
 |a::l,h=>by
  by_cases e:a=x
  .exact⟨[],l,by rw[e];rfl,λy hy=>by cases hy⟩
  .rcases aN.mp h with h|h
   .exact(e h.symm).elim
   .obtain⟨u,v,eu,hu⟩:=LN h;refine⟨a::u,v,by rw[eu];rfl,λy hy=>?_⟩;rcases aN.mp hy with rfl|hy
    .exact e
    .exact hu y hy
def Lg{x:Str}{u v:List Str}(hu:∀y∈u,y≠x):(u++x::v).takeWhile (λy=>!decide (y=x))=u:=by
 rw[List.takeWhile_append_of_pos (λy hy=>by rw[ao (hu y hy)];rfl),aF,aa (by simp),aU]
theorem EK{α:Type}{p:α->Bool}:∀{l:List α},(∀x∈l,p x=true)->l.takeWhile p=l
 |[],_=>rfl
 |a::l,h=>by rw[aF,ah (h a aB),EK λx hx=>h x (aA _ hx)]
def ap0(ns:List Str):jQ ns<=ns.length:=by
 unfold jQ;split
 .refine aV List.count_le_length (aV (aT _).length_le ?_);rw[bF];exact aI _
 .exact aP _
def fZ(p:Addr)(G G':Hp):Prop:=∀a o,a≠p->G a=some o->G' a=some o
def fZ.of{p:Addr}{G G':Hp}(s:cR G G'):fZ p G G':=λa o _ h=>s a o h
def fZ.trans{p:Addr}{G G' G2:Hp}(s:fZ p G G')(s':fZ p G' G2):fZ p G G2:=λa o n h=>s' a o n (s a o n h)
def fZ.put{p:Addr}{G:Hp}{o:HO}:fZ p G (upd G p o):=λa u n h=>by rw[eK n];exact h
def fZ.same{p:Addr}{Hb G G':Hp}(hb:Hb p=none)(s:cR Hb G)(x:fZ p G G'):cR Hb G':=λa o h=>x a o (λe=>by rw[e,hb]at h;cases h) (s a o h)
section
abbrev wG:Stmt:=inClass (top 127) 0
def Pp:dP ["self","pieces","names","end","point","piece"] ["self","pieces"] (c9 wG):=dW
abbrev pA(ps:List Pc):List Pc:=ps.takeWhile fj
abbrev pX(ps:List Pc):List Pc:=ps.dropWhile fj
abbrev pW(ps:List Pc):List Pc:=(pA ps).takeWhile gj
abbrev pT(ps:List Pc):List Pc:=(pA ps).dropWhile gj
abbrev lU(ps:List Pc):Nat:=100^(ps.map Pc.name).count gf
abbrev mQ(ps:List Pc):Nat:=10^12*1000^jQ ((pW ps).map Pc.name)
def aI9(C:Cs)(CL:Addr)(H0 H:Hp)(q:Addr)(ps:List Pc):Prop:=qz C CL H0 H q (pA ps) (pX ps) (eL (pW ps)) (eL (pT ps)) (lO ((pW ps).map Pc.name)) (lU ps) (mQ ps)
inductive OO(K:b6)(C:Cs)(CL:Addr)(vs:List V)(H:Hp)(Q:VK)(z3:XK):Prop|m(p dx a as ps H0 Hb)(_:vs=[.ref p,.ref a])(_:Hb p=none)(_:cR Hb H)(_:H p=some (.ins CL dx []))(_:cU K Hb a (as.map V.ref))(_:as.length<=300)(_:Ps C H0 Hb as ps)(_:(∀p∈ps,Named p))(_:(fB∈ps.map Pc.name->fB∈(pA ps).map Pc.name))(_:∀H',cR Hb H'->aI9 C CL H0 H' p ps->Q .dI H')
def ax5{f CL:Addr}(T:TX P w K mg)(TP:lB K C.piece)(TL:r8 K CL)(UB:Own P w K mg base cY 2 "is_comma_between" ["names"] (OT K))(Ue:Own P w K mg base cY 2 "count_commas_behind" ["names"] (O6 K))(j9:Own P w K mg base cY 1 "power" ["base","exponent"] sq)(F:dM K "__init__" "Layout.__init__" wG f fd):dJ P w K mg base cY 3 f fd ["self","pieces"] (OO K C CL):=by
 refine F.oK Pp λc8 A outer s H vs Q E hr h=>?_;obtain⟨p,dx,a,as,ps,H0,Hb,rfl,rR,sb,hp,hS,hlen,hP,hN,uZ,k⟩:=h;have nd:=Pp.nd;have hl:=hP.length;have hmn:(ps.map Pc.name).length=ps.length:=az ..;obtain⟨t3,ht3,Qn⟩:∃t3,gb (gJ cY P w K mg base ["self","pieces","names","end","point","piece"] "Layout.__init__" (c9 wG) f c8 A outer s H E).jV ((gH wG).drop 3) t3/\∀(D1:Addr) (G:Hp),cR Hb G->G p=some (.ins CL dx [])->D1≠p->G D1=some (.lst (nv (ps.map Pc.name)))->t3 {nx:=λ_ H'=>Q .dI H',rt:=Q} [some (.ref p),some (.ref a),some (.ref D1),some (.int ((pA ps).length:Nat)),some (.int ((pW ps).length:Nat)),none] G:=by
  refine⟨_,(cW (iC (pv 0) (fP fX (pv 1) gQ (eY (pv 3))) rfl)
  (cW (iC (pv 0) (fP fX (pv 1) (eY (pv 3)) gQ) rfl)
  (cW (iC (pv 0) (nk rfl nd (gR (fP fX (pv 1) gQ (eY (pv 4)))) (iA (N:=["self","pieces","names","end","point","piece"]) (sc:=c9 (inClass (top 127) 0)) (own:=[("piece",5)]) ()) (λ_ _ _ _ _=>fF (i:=5) nd (.inr rfl)) (λ_ _ _ _ _=>(mj (dj dU (show PE _ _ (gT K _ "name")from dH (pv 5) rfl) eH))) (λ_ _ _ _ _=>(show PE _ _ (gT K _ "value")from dH (pv 5) rfl))) rfl)
  (cW (iC (pv 0) (nk rfl nd (gR (fP fX (pv 1) (eY (pv 4)) (eY (pv 3)))) (iA (N:=["self","pieces","names","end","point","piece"]) (sc:=c9 (inClass (top 127) 0)) (own:=[("piece",5)]) ()) (λ_ _ _ _ _=>fF (i:=5) nd (.inr rfl)) (λ_ _ _ _ _=>(mj (dj dU (show PE _ _ (gT K _ "name")from dH (pv 5) rfl) eH))) (λ_ _ _ _ _=>(show PE _ _ (gT K _ "value")from dH (pv 5) rfl))) rfl)
  (cW (iC (pv 0) (dF UB hr (cT (fP fX (pv 2) gQ (eY (pv 4))))) rfl)
  (cW (iC (pv 0) (dF j9 hr (c_ cZ (cT (gk b7 cN cO qX (pv 2) (cT eH))))) rfl)
  (cX (iC (pv 0) (dm ki (dG T.wD) (dF j9 hr (c_ cZ (cT (dF Ue hr (cT (fP fX (pv 2) gQ (eY (pv 4))))))))) rfl)))))))),λD1 G s1 u5 tT gP=>?_⟩
  have Bv:ps.take (pA ps).length=pA ps/\ps.drop (pA ps).length=pX ps:=by
   exact⟨(bY.mp (aT fj)).symm,vU ps fj⟩
  have Nb:(pA ps).take (pW ps).length=pW ps/\(pA ps).drop (pW ps).length=pT ps:=by
   exact⟨(bY.mp (aT gj)).symm,vU (pA ps) gj⟩
  have Tg:(pA ps).length<=ps.length:=(aT fj).length_le;have hWl:(pW ps).length<=(pA ps).length:=(aT gj).length_le;have R_:ps.take (pW ps).length=pW ps:=by
   have e1:(ps.take (pA ps).length).take (pW ps).length=pW ps:=by rw[Bv.1];exact Nb.1
   rw[List.take_take,Nat.min_eq_left hWl]at e1;exact e1
  have psT:(ps.drop (pW ps).length).take ((pA ps).length-(pW ps).length)=pT ps:=by
   rw[<-List.drop_take,Bv.1];exact Nb.2
  generalize hWn:(pW ps).length=nW at*;generalize hAn:(pA ps).length=nA at*;refine⟨(nA:Int),rfl,a,_,rfl,s1.seq hS,?_⟩;rw[sI,<-bI];intro la zL;have x1:fZ p G (upd G la (.lst ((as.take nA).map V.ref))):=.of (cR.upd zL);have zh:la≠p:=cH (fE u5 zL);have aQ0:upd G la (.lst ((as.take nA).map V.ref)) la=some (.lst ((as.take nA).map V.ref)):=cV;have h1p:=cR.upd (o:=.lst ((as.take nA).map V.ref)) zL _ _ u5;generalize upd G la (.lst ((as.take nA).map V.ref))=G1 at*;refine⟨p,CL,dx,_,rfl,h1p,TL.cl,TL.sf,(by show 0<1000;decide),?_⟩;have x2:=x1.trans (fZ.put (o:=.ins CL dx (eG "pieces" (.ref la) [])));have Tp:upd G1 p (.ins CL dx (eG "pieces" (.ref la) [])) p=some (.ins CL dx (eG "pieces" (.ref la) [])):=cV;have aP9:upd G1 p (.ins CL dx (eG "pieces" (.ref la) [])) la=some (.lst ((as.take nA).map V.ref)):=fZ.put _ _ zh aQ0;generalize upd G1 p (.ins CL dx (eG "pieces" (.ref la) []))=G2 at*;refine⟨(nA:Int),rfl,a,_,rfl,(fZ.same rR s1 x2).seq hS,?_⟩;rw[q_,<-bH];intro lx HK;have y1:fZ p G2 (upd G2 lx (.lst ((as.drop nA).map V.ref))):=.of (cR.upd HK);have B8:lx≠p:=cH (fE Tp HK);have aP8:upd G2 lx (.lst ((as.drop nA).map V.ref)) lx=some (.lst ((as.drop nA).map V.ref)):=cV;have h3p:=cR.upd (o:=.lst ((as.drop nA).map V.ref)) HK _ _ Tp;generalize upd G2 lx (.lst ((as.drop nA).map V.ref))=G3 at*;refine⟨p,CL,dx,_,rfl,h3p,TL.cl,TL.Ay,(by show 1<1000;decide),?_⟩;have y2:=y1.trans (fZ.put (o:=.ins CL dx (eG "exponent" (.ref lx) (eG "pieces" (.ref la) []))));have h4p:upd G3 p (.ins CL dx (eG "exponent" (.ref lx) (eG "pieces" (.ref la) []))) p=some (.ins CL dx (eG "exponent" (.ref lx) (eG "pieces" (.ref la) []))):=cV;have aP7:upd G3 p (.ins CL dx (eG "exponent" (.ref lx) (eG "pieces" (.ref la) []))) lx=some (.lst ((as.drop nA).map V.ref)):=fZ.put _ _ B8 aP8;generalize upd G3 p (.ins CL dx (eG "exponent" (.ref lx) (eG "pieces" (.ref la) [])))=G4 at*;have z4:=x2.trans y2;have s4:=fZ.same rR s1 z4;refine⟨(nW:Int),rfl,a,_,rfl,s4.seq hS,?_⟩;rw[sI,<-bI];intro l5 hl5;have s5:=cR.upd (o:=.lst ((as.take nW).map V.ref)) hl5;have To:upd G4 l5 (.lst ((as.take nW).map V.ref)) l5=some (.lst ((as.take nW).map V.ref)):=cV;have Tn:=s5 _ _ h4p;generalize upd G4 l5 (.lst ((as.take nW).map V.ref))=G5 at*;have sb5:=s4.trans s5;have each:∀{bs:List Addr} {qs:List Pc} {G':Hp},Ps C H0 G' bs qs->(∀p∈qs,Named p)->∀(x:V) (H':Hp),x∈bs.map V.ref->cR G' H'->∃(b:Addr) (q:Pc) (e:Nat) (v:V) (dx:Addr),x= .ref b/\H' b=some (.ins C.piece dx (m5 (.str q.name) v (.int (e:Nat))))/\dQ G' "name" x= .str q.name/\dQ G' "value" x=v:=by
   intro bs qs G' hq hn x H' hx sm;obtain⟨b,q,e,rfl,hm,hp⟩:=hq.mem hx;obtain⟨v,dx,h1,h2,f1,f2⟩:=hp.fields;exact⟨b,q,e,v,dx,rfl,sm _ _ h1,f1,f2⟩
  have S7:Ps C H0 G5 (as.take nW) (pW ps):=by
   have:=(hP.same sb5).take nW;rw[R_]at this;exact this
  have qT:∀q∈pA ps,Named q:=λq hq=>hN q ((aT fj).mem hq);have CG:∀q∈pW ps,Named q:=λq hq=>qT q ((aT gj).mem hq);have CH:∀q∈pT ps,Named q:=λq hq=>qT q ((List.dropWhile_suffix gj).mem hq);refine⟨l5,rfl,⟨_,cU.of To⟩,λlw HL=>i6 (Fv G5) (cU.of To) HL (by rw[az,aW];lia) ?_ ?_⟩
  .intro x H' hx sm Q1 Q2 g1 g2;obtain⟨b,q,e,v,dx,rfl,hb,f1,f2⟩:=each S7 CG x H' hx sm;refine⟨rfl,b,C.piece,dx,_,_,rfl,hb,TP.cl,TP.fz,fu,rfl,_,rfl,dw (λz=>?_) (λz=>?_)⟩
   .exact⟨b,C.piece,dx,_,_,rfl,hb,TP.cl,TP.jz,jy,g1 _ (by show(if dQ G5 "name" (.ref b)= .str "place" then some (dQ G5 "value" (.ref b))else none)=_;rw[f1,f2,ah (aj z)])⟩
   .exact g2 (by show(if dQ G5 "name" (.ref b)= .str "place" then some (dQ G5 "value" (.ref b))else none)=_;rw[f1,aa λy=>z (ak y)])
  rw[KH S7 CG];have s6:=cR.upd (o:=.lst (bv (eL (pW ps)))) HL;have Gz:lw≠p:=cH (fE Tn HL);have h6w:upd G5 lw (.lst (bv (eL (pW ps)))) lw=some (.lst (bv (eL (pW ps)))):=cV;have h6p:=s6 _ _ Tn;generalize upd G5 lw (.lst (bv (eL (pW ps))))=G6 at*;refine⟨p,CL,dx,_,rfl,h6p,TL.cl,TL.yj,(by show 2<1000;decide),?_⟩;have z6:fZ p G4 G6:=.of (s5.trans s6);have h7p:upd G6 p (.ins CL dx (eG "whole" (.ref lw) (eG "exponent" (.ref lx) (eG "pieces" (.ref la) [])))) p=some (.ins CL dx (eG "whole" (.ref lw) (eG "exponent" (.ref lx) (eG "pieces" (.ref la) [])))):=cV;have y7:fZ p G6 (upd G6 p (.ins CL dx (eG "whole" (.ref lw) (eG "exponent" (.ref lx) (eG "pieces" (.ref la) []))))):=fZ.put;have h7w:=y7 _ _ Gz h6w;generalize upd G6 p (.ins CL dx (eG "whole" (.ref lw) (eG "exponent" (.ref lx) (eG "pieces" (.ref la) []))))=G7 at*;have z7:=(z4.trans z6).trans y7;have s7:=fZ.same rR s1 z7;refine⟨(nW:Int),rfl,(nA:Int),rfl,a,_,rfl,s7.seq hS,?_⟩;rw[ym,<-bH,<-bI];intro l8 hl8;have s8:=cR.upd (o:=.lst (((as.drop nW).take (nA-nW)).map V.ref)) hl8;have Ti:upd G7 l8 (.lst (((as.drop nW).take (nA-nW)).map V.ref)) l8=some (.lst (((as.drop nW).take (nA-nW)).map V.ref)):=cV;have Th:=s8 _ _ h7p;generalize upd G7 l8 (.lst (((as.drop nW).take (nA-nW)).map V.ref))=G8 at*;have S6:Ps C H0 G8 ((as.drop nW).take (nA-nW)) (pT ps):=by
   have:=((hP.same (s7.trans s8)).drop nW).take (nA-nW);rw[psT]at this;exact this
  refine⟨l8,rfl,⟨_,cU.of Ti⟩,λlb HM=>i6 (Fv G8) (cU.of Ti) HM (by rw[az,aW,aQ];lia) ?_ ?_⟩
  .intro x H' hx sm Q1 Q2 g1 g2;obtain⟨b,q,e,v,dx,rfl,hb,f1,f2⟩:=each S6 CH x H' hx sm;refine⟨rfl,b,C.piece,dx,_,_,rfl,hb,TP.cl,TP.fz,fu,rfl,_,rfl,dw (λz=>?_) (λz=>?_)⟩
   .exact⟨b,C.piece,dx,_,_,rfl,hb,TP.cl,TP.jz,jy,g1 _ (by show(if dQ G8 "name" (.ref b)= .str "place" then some (dQ G8 "value" (.ref b))else none)=_;rw[f1,f2,ah (aj z)])⟩
   .exact g2 (by show(if dQ G8 "name" (.ref b)= .str "place" then some (dQ G8 "value" (.ref b))else none)=_;rw[f1,aa λy=>z (ak y)])
  rw[KH S6 CH];have s9:=cR.upd (o:=.lst (bv (eL (pT ps)))) HM;have RI:lb≠p:=cH (fE Th HM);have h9b:upd G8 lb (.lst (bv (eL (pT ps)))) lb=some (.lst (bv (eL (pT ps)))):=cV;have h9p:=s9 _ _ Th;generalize upd G8 lb (.lst (bv (eL (pT ps))))=G9 at*;refine⟨p,CL,dx,_,rfl,h9p,TL.cl,TL.vK,(by show 3<1000;decide),?_⟩;generalize CA:eG "behind" (.ref lb) (eG "whole" (.ref lw) (eG "exponent" (.ref lx) (eG "pieces" (.ref la) [])))=f4 at*;have aQ3:upd G9 p (.ins CL dx f4) p=some (.ins CL dx f4):=cV;have RZ:fZ p G9 (upd G9 p (.ins CL dx f4)):=fZ.put;have aQ4:=RZ _ _ RI h9b;generalize upd G9 p (.ins CL dx f4)=TY at*;have Cc:fZ p G7 TY:=(fZ.of (s8.trans s9)).trans RZ;have Qx:=z7.trans Cc;have wQ:=fZ.same rR s1 Qx;have tU:=Qx _ _ tT gP;have Se:(nv (ps.map Pc.name)).take nW=nv ((pW ps).map Pc.name):=by
   rw[<-bI,<-bI,R_]
  have aS9:f4.length<100:=by rw[<-CA];show 4<100;decide
  refine⟨(nW:Int),rfl,D1,_,rfl,cU.of tU,?_⟩;rw[sI,Se];intro l11 aO5;have G0:=cR.upd (o:=.lst (nv ((pW ps).map Pc.name))) aO5;refine⟨l11,_,rfl,cU.of cV,(by rw[az];lia),λIS Cj=>?_⟩;have sX:=G0.trans Cj;refine⟨p,CL,dx,_,rfl,sX _ _ aQ3,TL.cl,TL.JC,(),?_⟩;generalize HU:eG "has_groups" (.bl (lO ((pW ps).map Pc.name))) f4=f5 at*;have aQ2:upd IS p (.ins CL dx f5) p=some (.ins CL dx f5):=cV;have RX:fZ p TY (upd IS p (.ins CL dx f5)):=(fZ.of sX).trans fZ.put;generalize upd IS p (.ins CL dx f5)=Dd at*;have GJ:=RX _ _ tT tU;refine⟨.inl ⟨rfl,_,cU.of GJ⟩,D1,_,_,rfl,rfl,cU.of GJ,rfl,gY _,?_⟩;rw[ue];have hcn:(ps.map Pc.name).count gf<=300:=aV List.count_le_length (by rw[az];lia);refine⟨100,(ps.map Pc.name).count gf,rfl,(),(),(),p,CL,dx,_,rfl,aQ2,TL.cl,TL.Lz,(by rw[<-HU,<-CA];show 5<1000;decide),?_⟩;have aQ7:(100:Int)^(ps.map Pc.name).count gf=((lU ps:Nat):Int):=by
   show _=((100^(ps.map Pc.name).count gf:Nat):Int);rw[Int.natCast_pow];rfl
  rw[aQ7];generalize SK:eG "factor" (.int ((lU ps:Nat):Int)) f5=f6 at*;have aQ1:upd Dd p (.ins CL dx f6) p=some (.ins CL dx f6):=cV;have RW:fZ p Dd (upd Dd p (.ins CL dx f6)):=fZ.put;generalize upd Dd p (.ins CL dx f6)=G13 at*;have aP6:=RW _ _ tT GJ;refine⟨(nW:Int),rfl,D1,_,rfl,cU.of aP6,?_⟩;rw[sI,Se];intro l14 aO4;have s14:=cR.upd (o:=.lst (nv ((pW ps).map Pc.name))) aO4;have zP:jQ ((pW ps).map Pc.name)<=300:=by
   refine aV (ap0 _) ?_;rw[az];lia
  refine⟨l14,_,rfl,cU.of cV,(by rw[az];lia),λTV s15=>⟨1000,jQ ((pW ps).map Pc.name),rfl,(),(),(),_,_,rfl,rfl,.inl ⟨(),()⟩,?_⟩⟩;have sY:=s14.trans s15;have aI5:(1000000000000:Int)*(1000:Int)^jQ ((pW ps).map Pc.name)=((mQ ps:Nat):Int):=by
   show _=((10^12*1000^jQ ((pW ps).map Pc.name):Nat):Int);rw[Int.natCast_mul,Int.natCast_pow];rfl
  show iL 0 _ _ _;refine⟨p,CL,dx,_,rfl,sY _ _ aQ1,TL.cl,TL.KQ,(by rw[<-SK,<-HU,<-CA];show 6<1000;decide),?_⟩;show Q .dI (upd TV p (.ins CL dx (eG "divisor" (.int ((1000000000000:Int)*(1000:Int)^jQ ((pW ps).map Pc.name))) f6)));rw[aI5];have zE:fZ p G13 (upd TV p (.ins CL dx (eG "divisor" (.int ((mQ ps:Nat):Int)) f6))):=(fZ.of sY).trans fZ.put;have zF:=(RX.trans RW).trans zE;refine k _ (fZ.same rR wQ zF) ⟨la,lx,lw,lb,as.take nA,as.drop nA,⟨dx,?_⟩,?_,?_,?_,?_,?_,?_,?_,?_⟩
  .rw[cV,<-SK,<-HU,<-CA];rfl
  .exact zF _ _ zh (Cc _ _ zh ((z6.trans y7) _ _ zh (y2 _ _ zh aP9)))
  .have:=(hP.same (fZ.same rR wQ zF)).take nA;rw[Bv.1]at this;exact this
  .rw[aW];lia
  .exact zF _ _ B8 (Cc _ _ B8 ((z6.trans y7) _ _ B8 aP7))
  .have:=(hP.same (fZ.same rR wQ zF)).drop nA;rw[Bv.2]at this;exact this
  .rw[aQ];lia
  .exact zF _ _ Gz (Cc _ _ Gz h7w)
  .exact zF _ _ RI aQ4
 obtain⟨t2,mR,aH0⟩:∃t2,gb (gJ cY P w K mg base ["self","pieces","names","end","point","piece"] "Layout.__init__" (c9 wG) f c8 A outer s H E).jV ((gH wG).drop 2) t2/\∀(D1:Addr) (G:Hp),cR Hb G->G p=some (.ins CL dx [])->D1≠p->G D1=some (.lst (nv (ps.map Pc.name)))->t2 {nx:=λ_ H'=>Q .dI H',rt:=Q} [some (.ref p),some (.ref a),some (.ref D1),some (.int ((pA ps).length:Nat)),none,none] G:=by
  refine⟨_,(cW (dN (i:=4) nd (gD (dj lz eH (pv 2) (by with_unfolding_all rfl)) (gk b7 PySem.F.slot_list_index PySem.F.type_list_index yc (pv 2) (cT eH)) (pv 3)))
  ht3),λD1 G s1 u5 tT gP=>?_⟩
  have hq:cU K G D1 (nv (ps.map Pc.name)):=cU.of gP;refine⟨D1,_,rfl,.inl hq,rfl,gY _,_,rfl,?_⟩;show if inV (.str "point") (nv (ps.map Pc.name))=true then _ else _;rw[jM]
  by_cases hx:fB∈ps.map Pc.name
  .rw[ak hx];obtain⟨j,i1,i2,i3⟩:=yy hx;obtain⟨g1,g2,g3⟩:=ya i1 i2;have n6:=(aD.mp i1).1;have ej:(pW ps).length=j:=by
    have e1:ps.map Pc.name=(pA ps).map Pc.name++(pX ps).map Pc.name:=by
     rw[<-bf,bO]
    have e2:(ps.map Pc.name).takeWhile (λy=>!decide (y=fB))=((pA ps).map Pc.name).takeWhile (λy=>!decide (y=fB)):=by
     rw[e1];obtain⟨u,v,eu,hu⟩:=LN (uZ hx);rw[eu,bw,bK,Lg hu,Lg hu]
    have e3:=(rz (x:=fB) (pA ps)).1;rw[i3,e3]at e2;have e4:=cI List.length e2;simp only[aW,az]at e4 n6;show((pA ps).takeWhile λp=>!decide (p.name=fB)).length=j;lia
   refine dZ ⟨.inl ⟨rfl,_,hq⟩,D1,_,_,j,_,rfl,rfl,hq,rfl,gY _,g1,g2,g3,?_⟩;have:=Qn D1 G s1 u5 tT gP;rw[ej]at this;exact this
  .rw[ao hx];have ew:pW ps=pA ps:=by
    refine EK λq hq=>?_;have:q.name≠fB:=λe=>hx (by rw[<-e];exact List.mem_map_of_mem ((aT fj).mem hq));unfold gj;rw[ao this];rfl
   have:=Qn D1 G s1 u5 tT gP;rw[ew]at this;exact dB (this)
 refine⟨_,(cW (l_ (i:=2) rfl nd rfl rfl (lD rfl rfl rfl rfl) (gR (pv 1)) (iA (N:=["self","pieces","names","end","point","piece"]) (sc:=c9 (inClass (top 127) 0)) (own:=[("piece",5)]) ()) (λ_ _ _ _ _=>fF (i:=5) nd (.inr rfl)) (λ_ _ _ _ _=>mq) (λ_ _ _ _ _=>(show PE _ _ (gT K _ "name")from dH (pv 5) rfl)))
  (cW (dN (i:=3) nd (gD (dj lz eH (pv 2) (by with_unfolding_all rfl)) (gk b7 PySem.F.slot_list_index PySem.F.type_list_index yc (pv 2) (cT eH)) (eN fD rfl T.fq () (cT (pv 2)))))
  mR)),?_⟩
 refine⟨a,rfl,⟨_,sb.seq hS⟩,λD hD=>i6 (λx=>some (dQ Hb "name" x)) (sb.seq hS) hD (by rw[az];lia) ?_ ?_⟩
 .intro x H' hx sm Q1 Q2 h1 h2;obtain⟨b,p,e,rfl,hm,hp⟩:=hP.mem hx;obtain⟨v,dx,hb,hv,f1,f2⟩:=hp.fields;rw[f1]at h1;exact⟨rfl,b,C.piece,dx,_,_,rfl,(sb.trans sm) _ _ hb,TP.cl,TP.fz,fu,h1 _ rfl⟩
 rw[DW hP];have s1:=cR.upd (o:=.lst (nv (ps.map Pc.name))) hD;have tT:D≠p:=cH (fE hp hD);have CJ:upd H D (.lst (nv (ps.map Pc.name))) D=some (.lst (nv (ps.map Pc.name))):=cV;have u5:=s1 _ _ hp;have sG:=sb.trans s1;generalize upd H D (.lst (nv (ps.map Pc.name)))=G at*;have hq:cU K G D (nv (ps.map Pc.name)):=cU.of CJ;refine⟨D,_,rfl,.inl hq,rfl,gY _,_,rfl,?_⟩;show if inV (.str "exponent") (nv (ps.map Pc.name))=true then _ else _;rw[jM];have main:=aH0 D G sG u5 tT CJ
 by_cases hx:fc∈ps.map Pc.name
 .rw[ak hx];obtain⟨j,i1,i2,i3⟩:=yy hx;obtain⟨g1,g2,g3⟩:=ya i1 i2;have n6:=(aD.mp i1).1;have ej:(pA ps).length=j:=by
   have e3:=(rz (x:=fc) ps).1;rw[i3]at e3;have e4:=cI List.length e3;simp only[aW,az]at e4 n6;show(ps.takeWhile λp=>!decide (p.name=fc)).length=j;lia
  rw[ej]at main;exact dZ ⟨.inl ⟨rfl,_,hq⟩,D,_,_,j,_,rfl,rfl,hq,rfl,gY _,g1,g2,g3,main⟩
 .rw[ao hx];have ew:pA ps=ps:=by
   refine EK λq hq=>?_;have:q.name≠fc:=λe=>hx (by rw[<-e];exact List.mem_map_of_mem hq);unfold fj;rw[ao this];rfl
  rw[ew]at main;refine dB ⟨D,_,rfl,.inl hq,?_⟩;show t2 _ [_,_,_,some (V.int (((nv (ps.map Pc.name)).length:Nat):Int)),_,_] G;rw[az,hmn];exact main
end
def ah7{b:cS}{cs:List eZ}(h:iy b=some cs):∀c∈cs,∀p∈c.ps,Good p:=by
 unfold iy at h;split at h
 .cases h
 .obtain⟨ls,mT,h⟩:=aO.mp h;obtain⟨c',ia,h⟩:=aO.mp h;split at h
  .rw[aH h]at ia;intro c hc p hp;have hm:=Ea ia c hc;rw[Bc]at mT;obtain⟨l2,h2,h3⟩:=aO.mp mT;split at h3
   .rw[aH h3]at h2;exact AV h2 _ hm p hp
   .cases h3
  .cases h
def Gd{l:List Sv68.Piece}(h:Sv68.kindOf l=some 1):rK l:=by
 unfold Sv68.kindOf at h;split at h
 .cases h
 split at h
 .cases h
 split at h
 .split at h<;>cases h
 split at h
 .split at h<;>cases h
 split at h
 .dsimp only at h;split at h
  .rename_i hc;unfold rK qh;exact hc
  .cases h
 .cases h
theorem Od{α:Type}{p:α->Bool}:∀{l:List α},(∀x∈l,p x=true)->l.dropWhile p=[]
 |[],_=>rfl
 |a::l,h=>by rw[bU,ah (h a aB),Od λx hx=>h x (aA _ hx)]
section
variable {ps:List Pc}
def hnA:¬fc∈(pA ps).map Pc.name:=λhm=>by
 obtain⟨p,hp,e⟩:=bJ.mp hm;have:=bg.mp List.all_takeWhile p hp;unfold fj at this;rw[e]at this;simp at this
def ug(h:∀p∈ps,Good p):Sv68.wholePart (lp ps)=lp (pW ps)/\(Sv68.beforePower (lp ps)).drop (Sv68.wholePart (lp ps)).length=lp (pT ps):=by
 obtain⟨b1,b2⟩:=before_eq h;have jG:=(Good.tw (g:=fj) h).1;have qM:=(Good.tw (g:=fj) h).2;obtain⟨n1,n2⟩:=num_eq jG hnA;have qu:ps=pA ps++pX ps:=(bO (p:=fj) (l:=ps)).symm;have hd:=yl (g:=fj) (x:=fc) (λ_=>rfl) ps;have hw:Sv68.wholePart (lp ps)=lp (pW ps):=by
  unfold Sv68.wholePart
  conv=>lhs;rw[qu]
  rw[Eg];rcases hd with e|⟨x,R,e,ex⟩
  .have e:pX ps=[]:=e;rw[e];show(lp (pA ps)++[]).takeWhile _=_;rw[aU];exact n1
  .have e:pX ps=x::R:=e;rw[e,m8];have xq:=qM x (by rw[show ps.dropWhile fj=x::R from e];exact aB);cases ht:fR x with
   |none=>
    rcases(mW ht).1 with z|z
    .exact cJ (ex.symm.trans z) ()
    .exact cJ (ex.symm.trans z) ()
   |some q=>
    have F:=facts xq ht;have HE:qh q=true:=by rw[F.power,ak ex]
    dsimp only;rw[Ep (by cases q<;>first |rfl|cases HE)];exact n1
 refine⟨hw,?_⟩;rw[b1,hw];rw[n1]at n2;exact n2
def yt(hN:∀p∈ps,Named p):SH.ff (lp ps)=eL ps:=by
 induction ps with
 |nil=>rfl
 |cons p ps ih=>
  have ih:=ih λq hq=>hN q (aA _ hq);have h1:SH.ff (fR p).toList=(nN p).toList:=by
   have hn:=hN p aB;cases p with
   |sign nm c=>
    rcases hn with e|e|e|e|e<;>subst e
    .have:nN (.sign dD c)=some c:=by show(if dD=dD then some c else none)=some c;exact ah rfl
     rw[this];rfl
    all_goals rfl
   |word nm n=>
    rcases hn with e|e<;>(subst e;rfl)
   |_=>rfl
  rw[uu];have:SH.ff ((fR p).toList++lp ps)=SH.ff (fR p).toList++SH.ff (lp ps):=bV ..;rw[this,ih,h1];show _=List.filterMap nN (p::ps);rw[aJ];cases nN p<;>rfl
def ZJ(h:∀p∈ps,Good p):((lp ps).any λp=>p== .comma)=decide (gu∈ps.map Pc.name):=by
 have:=AN h;rw[<-Bool.not_not (decide _),<-this,List.all_eq_not_any_not,Bool.not_not];congr 1;funext q;rw[bne,Bool.not_not]
def F_{p:Pc}{q:Sv68.Piece}(hp:Good p)(hq:fR p=some q):(!Sv68.isPlace q)= !decide (p.name=dD):=by rw[(facts hp hq).place]
def F9{p:Pc}(hp:fR p=none):(!decide (p.name=dD))=true:=by
 rcases(mW hp).1 with e|e
 .rw[e];decide+kernel
 .rw[e];decide+kernel
def N7(ps:List Pc):(lp ps).reverse=lp ps.reverse:=(List.filterMap_reverse ..).symm
def Yi(h:∀p∈ps,Good p):Sv68.grouped (lp ps)=lO (ps.map Pc.name):=by
 unfold Sv68.grouped lO;have e1:=(vQ (f:=λp=>!Sv68.isPlace p) (g:=λp=>!decide (p.name=dD)) (λp q=>F_) (λp=>F9) h).2;have HS:=(Good.tw (g:=λp=>!decide (p.name=dD)) h).2;rw[e1,N7];have SI:∀p∈(ps.dropWhile λp=>!decide (p.name=dD)).reverse,Good p:=λp hp=>HS p (List.mem_reverse.mp hp);have e2:=(vQ (f:=λp=>!Sv68.isPlace p) (g:=λp=>!decide (p.name=dD)) (λp q=>F_) (λp=>F9) SI).2;have hg3:=(Good.tw (g:=λp=>!decide (p.name=dD)) SI).2;rw[e2,ZJ hg3,<-(rz (x:=dD) _).2,List.map_reverse,<-(rz (x:=dD) _).2]
 by_cases hm:dD∈ps.map Pc.name
 .rw[ah hm]
 .rw[aa hm];have:(ps.map Pc.name).dropWhile (λy=>!decide (y=dD))=[]:=by
   refine Od λy hy=>?_;have:y≠dD:=λe=>hm (by rw[<-e];exact hy);rw[ao this];rfl
  rw[this];rfl
def JO(h:∀p∈ps,Good p):Sv68.trailing (lp ps)=jQ (ps.map Pc.name):=by
 unfold Sv68.trailing jQ;have hr:∀p∈ps.reverse,Good p:=λp hp=>h p (List.mem_reverse.mp hp);have e1:=(vQ (f:=λp=>!Sv68.isPlace p) (g:=λp=>!decide (p.name=dD)) (λp q=>F_) (λp=>F9) hr).1;have HS:=(Good.tw (g:=λp=>!decide (p.name=dD)) hr).1;rw[N7,e1,AI HS,<-(rz (x:=dD) _).1,List.map_reverse];have c:=vF h;have ha:((lp ps).any Sv68.isPlace=true)↔dD∈ps.map Pc.name:=by
  rw[<-AH,<-c];unfold Sv68.count;rw[List.any_eq_true];constructor
  .rintro⟨q,h1,h2⟩;exact List.length_pos_of_mem (bS.mpr ⟨h1,h2⟩)
  .intro hl;obtain⟨q,hq⟩:=List.exists_mem_of_length_pos hl;exact⟨q,(bS.mp hq).1,(bS.mp hq).2⟩
 by_cases hm:dD∈ps.map Pc.name
 .rw[ah (ha.mpr hm),ah hm]
 .rw[aa (λz=>hm (ha.mp z)),aa hm]
def LP(h:∀p∈ps,Good p)(q:Nat):SH.wC (lp ps) q=lH (pA ps) (eL (pW ps)) (eL (pT ps)) (lO ((pW ps).map Pc.name)) q:=by
 have jG:=(Good.tw (g:=fj) h).1;have jX:=(Good.tw (g:=gj) jG).1;have HQ:=(Good.tw (g:=gj) jG).2;obtain⟨e1,e2⟩:=ug h;unfold SH.wC lH;dsimp only;rw[e2,e1,(before_eq h).1,yt λp hp=>(jX p hp).1,yt λp hp=>(HQ p hp).1,Yi jX]
def FL(h:∀p∈ps,Good p):SH.dec (lp ps)=(eL (pT ps)).length:=by
 have jG:=(Good.tw (g:=fj) h).1;have HQ:=(Good.tw (g:=gj) jG).2;unfold SH.dec SH.tn;rw[(ug h).2,yt λp hp=>(HQ p hp).1]
def N_(h:∀p∈ps,Good p)(q:Nat):SH.uY (lp ps) q=sN (eL (pW ps)) (eL (pT ps)) q:=by
 have jG:=(Good.tw (g:=fj) h).1;have jX:=(Good.tw (g:=gj) jG).1;unfold SH.uY sN;rw[FL h,(ug h).1,yt λp hp=>(jX p hp).1]
end
noncomputable def kF(ps:List Pc)(z:Nat):cS×Bool:=match pX ps with
 | .exponent c::R=>(lH (pA ps) (eL (pW ps)) (eL (pT ps)) (lO ((pW ps).map Pc.name)) (SH.lJ (eL (pT ps)).length (eL (pW ps)).length z).2++lK c (gA R) (SH.lJ (eL (pT ps)).length (eL (pW ps)).length z).1,sN (eL (pW ps)) (eL (pT ps)) (SH.lJ (eL (pT ps)).length (eL (pW ps)).length z).2)
 |_=>(lH (pA ps) (eL (pW ps)) (eL (pT ps)) (lO ((pW ps).map Pc.name)) (Sv68.rounded (z*lU ps*10^(eL (pT ps)).length) (mQ ps)),sN (eL (pW ps)) (eL (pT ps)) (Sv68.rounded (z*lU ps*10^(eL (pT ps)).length) (mQ ps)))
structure IW(ps:List Pc):Prop where
 w:(eL (pW ps)).length<=24
 t:(eL (pT ps)).length<=12
 pc:(ps.map Pc.name).count gf<=4
 co:jQ ((pW ps).map Pc.name)<=8
 pt:fB∈ps.map Pc.name->fB∈(pA ps).map Pc.name
 ex:pX ps=[]\/∃c R,pX ps= .exponent c::R/\gA R<=3/\(Sv68.behindPower (lp ps)).length=gA R/\0<(eL (pW ps)).length
def Kn(ns:List Str):jQ ns<=ns.count gu:=by
 unfold jQ;split
 .refine aV ((List.takeWhile_sublist _).count_le _) ?_;rw[List.count_reverse];exact aI _
 .exact aP _
def MM{p:Pc}(hn:Named p)(h:p.name=fc):∃c,p= .exponent c:=by
 cases p with
 |exponent c=>exact⟨c,rfl⟩
 |sign nm c=>
  have h:nm=fc:=h;rcases hn with e|e|e|e|e<;>(rw[e]at h;exact cJ h ())
 |word nm n=>
  have h:nm=fc:=h;rcases hn with e|e<;>(rw[e]at h;exact cJ h ())
 |text b=>exact cJ (show(iD:Str)=fc from h) ()
 |part l n d=>exact cJ (show(iR:Str)=fc from h) ()
 |passed l n d=>exact cJ (show(jA:Str)=fc from h) ()
 |colour k=>exact cJ (show(gr:Str)=fc from h) ()
 |condition z x=>exact cJ (show(gq:Str)=fc from h) ()
section
variable {ps:List Pc}
def ZK{l:List Sv68.Piece}(h:(l.all λq=>q== .place 48)=true):Sv68.count l Sv68.isPlace=l.length:=by
 unfold Sv68.count;rw[List.length_filter_eq_length_iff];intro q hq;have:=bg.mp h q hq;rw[show q= .place 48 by simpa using this];rfl
def Ld(h:∀p∈ps,Good p){x:Pc}{R:List Pc}(e:pX ps=x::R)(ex:x.name=fc):Sv68.behindPower (lp ps)=lp R/\1<=((lp ps).filter qh).length:=by
 have qM:=(Good.tw (g:=fj) h).2;obtain⟨b1,b2⟩:=before_eq h;have hx:Good x:=qM x (by rw[show ps.dropWhile fj=x::R from e];exact aB);obtain⟨c,rfl⟩:=MM hx.1 ex;constructor
 .unfold Sv68.behindPower;rw[b2,show ps.dropWhile fj= .exponent c::R from e];rfl
 .rw[K6 h,AH];have:Pc.exponent c∈ps:=(List.dropWhile_suffix fj).mem (by rw[show ps.dropWhile fj= .exponent c::R from e];exact aB);exact bJ.mpr ⟨_,this,rfl⟩
def FH(h:∀p∈ps,Good p)(hd:rK (lp ps)):IW ps:=by
 have jG:=(Good.tw (g:=fj) h).1;have jX:=(Good.tw (g:=gj) jG).1;obtain⟨d1,d2,d3,d4,d5,d6,d7,d8,d9⟩:=hd;have ew:=(ug h).1;have e24:(eL (pW ps)).length=Sv68.count (Sv68.wholePart (lp ps)) Sv68.isPlace:=by
  rw[EA λp hp=>(jX p hp).1,ew,vF jX]
 have ecm:((pW ps).map Pc.name).count gu=Sv68.count (Sv68.wholePart (lp ps)) (λp=>p== .comma):=by
  rw[ew,AI jX]
 have tN:=yl (g:=fj) (x:=fc) (λ_=>rfl) ps;refine⟨(),by rw[<-FL h,SH.dec_eq];exact d6,by rw[<-DP h];exact d3,aV (Kn _) (),?_,?_⟩
 .intro hm;have e1:ps.map Pc.name=(pA ps).map Pc.name++(pX ps).map Pc.name:=by
   rw[<-bf,bO]
  rw[e1]at hm;rcases List.mem_append.mp hm with hm|hm
  .exact hm
  exfalso;rcases tN with e|⟨x,R,e,ex⟩
  .rw[show pX ps=[]from e]at hm;cases hm
  .obtain⟨b1,b2⟩:=Ld h e ex;rw[b1]at d8;have tL:∀p∈R,Good p:=λp hp=>(Good.tw (g:=fj) h).2 p (by rw[show ps.dropWhile fj=x::R from e];exact aA _ hp);rcases d8 with d8|d8
   .lia
   .have:=Au tL d8.2.2.2.2.2 (x:=fB) ();rw[qW]at this;rw[show pX ps=x::R from e,aX]at hm;rcases aN.mp hm with hm|hm
    .rw[ex]at hm;exact cJ hm ()
    .exact this hm
 .rcases tN with e|⟨x,R,e,ex⟩
  .exact .inl e
  .have qM:=(Good.tw (g:=fj) h).2;have hx:Good x:=qM x (by rw[e];exact aB);have tL:∀p∈R,Good p:=λp hp=>qM p (by rw[e];exact aA _ hp);obtain⟨c,rfl⟩:=MM hx.1 ex;obtain⟨b1,b2⟩:=Ld h e ex;rcases d8 with d8|d8
   .lia
   .rw[b1]at d8 ⊢;have en:(lp R).length=gA R:=by
     rw[<-ZK d8.2.2.2.2.2,vF tL]
    exact .inr ⟨c,R,e,(),en,()⟩
def YL{l:List Sv68.Piece}(hd:rK l):(Sv68.tenthsPart l).all SH.jh=true:=by
 obtain⟨d1,_⟩:=hd;rcases SH.A5 l with e|e
 .unfold Sv68.tenthsPart;rw[e];rfl
 .rw[bg];intro q hq;unfold SH.jh;rw[bne,Bool.not_eq_true'];rw[Bool.eq_false_iff];intro z;have hc:Sv68.count (Sv68.beforePower l) (λp=>p== .point)<=1:=by
   refine aV ?_ d1;unfold Sv68.count Sv68.beforePower;exact((List.takeWhile_sublist _).filter _).length_le
  rw[SH.A3,e]at hc;unfold Sv68.count at hc;rw[List.filter_append,aC,List.filter_cons,ah (),aK]at hc;have:0<((Sv68.tenthsPart l).filter λp=>p== .point).length:=List.length_pos_of_mem (bS.mpr ⟨hq,z⟩);lia
def ai4(h:∀p∈ps,Good p)(hf:∀p∈ps,iM p):(lp ps).all SH.za=true:=by
 rw[bg];intro q hq;obtain⟨p,hp,e⟩:=List.mem_filterMap.mp hq;have hF:=hf p hp;have hn:=(h p hp).1;cases p with
 |sign nm c=>
  rcases hn with z|z|z|z|z<;>subst z
  .obtain rfl:=aH e;show(c==48||(c==35||c==63))=true;rcases hF rfl with z|z|z<;>(subst z;rfl)
  all_goals (obtain rfl:=aH e;rfl)
 |word nm n=>
  rcases hn with z|z<;>(subst z;obtain rfl:=aH e;rfl)
 |text b=>obtain rfl:=aH e;rfl
 |exponent c=>obtain rfl:=aH e;rfl
 |part l n d=>obtain rfl:=aH e;rfl
 |passed l n d=>obtain rfl:=aH e;rfl
 |colour k=>cases e
 |condition z x=>cases e
def find_none(hn:¬fc∈ps.map Pc.name)(h:∀p∈ps,Good p):((lp ps).find? λp=>p== .power true||p== .power false)=none:=by
 rw[List.find?_eq_none];intro q hq z;obtain⟨p,hp,e⟩:=List.mem_filterMap.mp hq;have F:=facts (h p hp) e;have:qh q=true:=by
  rcases Bool.or_eq_true_iff.mp z with z|z
  .rw[show q= .power true by simpa using z];rfl
  .rw[show q= .power false by simpa using z];rfl
 rw[F.power]at this;exact hn (bJ.mpr ⟨p,hp,aj this⟩)
def Zo(h:∀p∈ps,Good p)(hf:∀p∈ps,iM p)(hd:rK (lp ps)){z:Nat}(hz:z<10^60):Sv68.digits (lp ps) z=((kF ps z).1,!(kF ps z).2):=by
 have D:=FH h hd;have jG:=(Good.tw (g:=fj) h).1;have jX:=(Good.tw (g:=gj) jG).1;rw[SH.FJ (lp ps) z (ai4 h hf) (YL hd) hz]
 .have:SH.yi (lp ps) z=kF ps z:=by
   unfold SH.yi kF;dsimp only;rw[LP h,N_ h,FL h];have qu:ps=pA ps++pX ps:=(bO (p:=fj) (l:=ps)).symm;rcases D.ex with e|⟨c,R,e,e3,e4,e5⟩
   .have k8:((lp ps).find? λp=>p== .power true||p== .power false)=none:=by
     refine find_none (λhm=>hnA (ps:=ps) ?_) h;have e2:pA ps=ps:=by
      have:=qu;rw[e,aU]at this;exact this.symm
     rw[e2];exact hm
    rw[k8,e];dsimp only;rw[show SH.Hh (lp ps)=(ps.map Pc.name).count gf from DP h,(ug h).1,JO jX]
   .have hso:((lp ps).find? λp=>p== .power true||p== .power false)=some (.power (c==43)):=by
     conv=>lhs;rw[qu,e,Eg]
     rw[List.find?_append,find_none hnA jG,Option.none_or];show List.find? _ (Sv68.Piece.power (c==43)::lp R)=_;rw[List.find?_cons];cases(c==43)<;>rfl
    rw[hso,e];dsimp only;rw[(ug h).1,yt λp hp=>(jX p hp).1,e4,LP h,N_ h];unfold lK;have ec:(if Sv68.Piece.power (c==43)= .power true then([43]:cS)else [])=if c=43 then [43]else []:=by
     by_cases hc:c=43
     .rw[ah hc,ah (by rw[hc];rfl)]
     .rw[aa hc,aa (λz=>hc (by simpa using z))]
    rw[ec]
  rw[this]
 .intro p hp;obtain⟨d1,d2,d3,d4,d5,d6,d7,d8,d9⟩:=hd;have aS5:1<=((lp ps).filter qh).length:=by
   have hm:=List.mem_of_find?_eq_some hp;have hq:=List.find?_some hp;refine List.length_pos_of_mem (bS.mpr ⟨hm,?_⟩);rcases Bool.or_eq_true_iff.mp hq with z|z
   .rw[show p= .power true by simpa using z];rfl
   .rw[show p= .power false by simpa using z];rfl
  rcases d8 with d8|d8
  .lia
  .refine⟨d8.2.2.1,?_,d8.1⟩;have ew:=(ug h).1;have hc:=d8.2.1;rw[ew,AN jX,Bool.not_eq_true',decide_eq_false_iff_not,<-qW]at hc;rw[ew,JO jX];have h1:=Kn ((pW ps).map Pc.name);have h2:((pW ps).map Pc.name).count gu=0:=hc;rw[h2]at h1;exact Nat.le_zero.mp h1
end
def J7{a b:Nat}(hb:1<=b):Sv68.rounded a b<=a+1:=by
 unfold Sv68.rounded;refine Nat.le_of_lt_succ ?_;rw[Nat.div_lt_iff_lt_mul ()];have:a*1<=a*b:=Nat.mul_le_mul_left a hb;have e:(a+1).succ*(2*b)=2*(a*b)+4*b:=by
  rw[show(a+1).succ=a+2 from rfl,Nat.add_mul,Nat.mul_left_comm];lia
 rw[e];lia
def Ye(A B:List Pc):gA (A++B)=gA A+gA B:=by
 show((A++B).map Pc.name).count dD=_;rw[bf,List.count_append]
section
abbrev QT:Stmt:=top 132
def Pf:dP ["pieces","number","layout","decimals","rounded"] ["pieces","number"] (c9 QT):=dW
inductive OE(K:b6)(C:Cs)(CD:Addr)(vs:List V)(H:Hp)(Q:VK)(z3:XK):Prop|m(a as ps H0)(n:Nat)(_:vs=[.ref a,.int n])(_:cU K H a (as.map V.ref))(_:as.length<=300)(_:Ps C H0 H as ps)(_:(∀p∈ps,Good p))(_:(∀p∈ps,iM p))(_:IW ps)(_:n<10^36)(_:zy CD H Q (kF ps n).1 (kF ps n).2)
def aw5{f CL CD:Addr}(T:TX P w K mg)(TL:r8 K CL)(af4:jD P w K mg base cY 3 CL "Layout" ["self","pieces"] (OO K C CL))(Ul:Own P w K mg base cY 5 "show_with_exponent" ["layout","number"] (Ow C CL CD))(j9:Own P w K mg base cY 1 "power" ["base","exponent"] sq)(xP:Own P w K mg base cY 1 "round_halves_up" ["number","divisor"] BI)(Eo:Own P w K mg base cY 4 "fill_in" ["layout","rounded"] (F6 C CL CD))(F:dM K "show_digits" "show_digits" QT f fd):dJ P w K mg base cY 6 f fd ["pieces","number"] (OE K C CD):=by
 refine F.oK Pf λc8 A outer s H vs Q E hr h=>?_;obtain⟨a,as,ps,H0,n,rfl,hS,hlen,hP,hG,hF,hD,hn,k⟩:=h;have nd:=Pf.nd;have iG:=hr.units;refine⟨_,(cW (dN (i:=2) nd (iQ af4 hr (cT (pv 0))))
  (cW (dO (dj (aa8 iG) (dH (pv 2) rfl) (fJ ir)) (cX (dh (dF Ul hr (c_ (pv 2) (cT (pv 1)))))) dX)
  (cW (dN (i:=3) nd (eN fD rfl T.fq () (cT (dH (pv 2) rfl))))
  (cW (dN (i:=4) nd (dF xP hr (c_ (dm ki (dm ki (pv 1) (dH (pv 2) rfl)) (dF j9 hr (c_ cZ (cT (pv 3))))) (cT (dH (pv 2) rfl)))))
  (cX (dh (dF Eo hr (c_ (pv 2) (cT (pv 4)))))))))),?_⟩
 refine(λx dx hx eU dR=>⟨x,dx,a,as,ps,H0,H,rfl,hx,?_,cV,hS,hlen,hP,λp hp=>(hG p hp).1,hD.pt,λH1 s1 hL=>⟨rfl,?_⟩⟩)
 .have:=(cR.refl H).ins (C:=CL) (fs:=[]) hx eU;rw[jd]at this;exact this
 have qT:∀p∈pA ps,Named p:=λp hp=>(hG p ((aT fj).mem hp)).1;have zT:∀p∈pA ps,iM p:=λp hp=>hF p ((aT fj).mem hp);have CG:∀p∈pW ps,Named p:=λp hp=>qT p ((aT gj).mem hp);have CH:∀p∈pT ps,Named p:=λp hp=>qT p ((List.dropWhile_suffix gj).mem hp);have zH:gA (pA ps)=(eL (pW ps)).length+(eL (pT ps)).length:=by
  rw[EA CG,EA CH,<-Ye,bO]
 have Tg:(pA ps).length<=300:=by
  have:(pA ps).length<=ps.length:=(aT fj).length_le;have:=hP.length;lia
 have nT:=hD.w;have tH:=hD.t;have Ii:qz C CL H0 H1 x (pA ps) (pX ps) (eL (pW ps)) (eL (pT ps)) (lO ((pW ps).map Pc.name)) (lU ps) (mQ ps):=hL;obtain⟨la,lx,lw,lb,n_,pR,⟨xE,h1⟩,h2,h3,h4,h5,h6,h7,h8,h9⟩:=Ii.ex;refine⟨x,CL,xE,_,_,rfl,h1,TL.cl,TL.Ay,Df,aP _,λp2 fS=>?_⟩;have s2:=cR.upd (o:=.lst []) fS;refine⟨lx,p2,_,rfl,rfl,cU.of (s2 _ _ h5),cU.of cV,_,rfl,?_⟩;generalize upd H1 p2 (.lst [])=H2 at*;have Cj:=s1.trans s2;unfold kF at k;rcases hD.ex with e|⟨c,R,e,e3,e4,e5⟩
 .rw[e]at k h6;cases h6;dsimp only at k;refine dB ⟨x,CL,xE,_,_,rfl,s2 _ _ h1,TL.cl,TL.vK,xR,lb,_,rfl,.inl (cU.of (s2 _ _ h9)),?_⟩;show qC _ _ _ [_,_,_,some (V.int (((bv (eL (pT ps))).length:Nat):Int)),_] H2;rw[eB];have Iq:lU ps<=10^8:=aV (bL () hD.pc) ();have tp:10^(eL (pT ps)).length<=10^12:=bL () tH;have aQ9:mQ ps<=10^36:=aV (Nat.mul_le_mul_left _ (bL () hD.co)) ();have CY:0<mQ ps:=Nat.mul_pos () (Nat.pow_pos ());have xg:Sv68.rounded (n*lU ps*10^(eL (pT ps)).length) (mQ ps)<10^90:=by
   refine bB (J7 CY) ?_;have h1:n*lU ps*10^(eL (pT ps)).length<=10^36*10^8*10^12:=Nat.mul_le_mul (Nat.mul_le_mul (Nat.le_of_lt hn) Iq) tp;exact bB (Nat.add_le_add_right h1 1) ()
  generalize lU ps=fa at*;generalize mQ ps=di at*;refine⟨x,CL,xE,_,_,rfl,s2 _ _ h1,TL.cl,TL.Lz,UX,_,_,rfl,rfl,.inr ⟨(),()⟩,10,(eL (pT ps)).length,rfl,(),(),(),_,_,rfl,rfl,.inr ?_,x,CL,xE,_,_,rfl,s2 _ _ h1,TL.cl,TL.KQ,UH,n*fa*10^(eL (pT ps)).length,di,?_,CY,?_,?_⟩
  .rw[pow10];generalize 10^(eL (pT ps)).length=u at tp ⊢;exact⟨(),()⟩
  .rw[Int.natCast_mul,Int.natCast_mul,<-pow10];rfl
  .have:di<2^900:=bB aQ9 ()
   exact_mod_cast this
  .exact⟨x,H0,pA ps,pX ps,eL (pW ps),eL (pT ps),_,fa,di,_,rfl,Ii.same s2,(),(),zH,qT,zT,xg,λp H' s' hd=>k p H' (Cj.trans s') hd⟩
 .rw[e]at k h6;dsimp only at k;cases h6 with
  |@cons b p0 as0 ps0 r0 tl0=>
   refine dZ ⟨x,H0,pA ps,R,eL (pW ps),eL (pT ps),_,lU ps,mQ ps,n,c,rfl,?_,e3,e5,nT,tH,zH,Tg,qT,zT,bh hn (),λp H' s' hd=>k p H' (Cj.trans s') hd⟩;have:=Ii.same s2;rw[e]at this;exact this
end
def jj(nm:Str)(cb:cS)(ps:List Pc):cS:=ps.flatMap λp=>match p with
 | .text b=>b
 |p=>if p.name=nm then cb else []
section
abbrev QG:Stmt:=top 173
def aE1:dP ["has_minus","codes"] ["has_minus","codes"] (c9 QG):=dW
def kU(m:Bool)(b:cS):cS:=(if m=true then [45]else [])++b
inductive F0(vs:List V)(H:Hp)(Q:VK)(z3:XK):Prop|m(m q b)(_:vs=[.bl m,.ref q])(_:H q=some (.lst (bv b)))(_:b.length<=2000000)(_:jE H Q (kU m b))
def av2(T:TX P w K mg)(F:dM K "with_minus" "with_minus" QG f fd):dJ P w K mg base cY 1 f fd ["has_minus","codes"] F0:=by
 refine F.oK aE1 λc8 A outer s H vs Q E hr h=>?_;obtain⟨m,q,b,rfl,hq,hb,k⟩:=h;refine⟨_,(cX (dh (gD (iH (pv 0)) (dm ni (fJ (cT (dG T.Bo))) (pv 1)) (pv 1)))),?_⟩;refine⟨m,rfl,?_⟩;cases m with
 |true=>
  refine dZ ⟨(by show 1<=2^24;decide),λp hp=>?_⟩;have s1:=cR.upd (o:=.lst [V.int 45]) hp;exact⟨p,q,_,_,rfl,rfl,cV,s1 _ _ hq,(by rw[eB];show 1+_<=2^24;lia),λp2 fS=>k.new s1 p2 fS⟩
 |false=>exact dB (k q H (cR.refl H) hq)
abbrev QY:Stmt:=top 169
def Pn:dP ["pieces","name","codes","result","piece"] ["pieces","name","codes"] (c9 QY):=dW
inductive F4(K:b6)(C:Cs)(vs:List V)(H:Hp)(Q:VK)(z3:XK):Prop|m(a as ps H0 nm b cb)(_:vs=[.ref a,.str nm,.ref b])(_:cU K H a (as.map V.ref))(_:as.length<=300)(_:Ps C H0 H as ps)(_:(∀p∈ps,Named p))(_:(∀p∈ps,iM p))(_:nm≠iD)(_:H b=some (.lst (bv cb)))(_:cb.length<=4096)(_:jE H Q (jj nm cb ps))
def YK{p:Pc}(hn:Named p)(h:p.name=iD):∃b,p= .text b:=by
 rcases MA hn with h1|⟨n,rfl⟩|⟨l,n,d,rfl⟩|⟨l,n,d,rfl⟩|⟨⟨n1,_⟩,_⟩
 .exact h1
 .exact cJ (show(gZ:Str)=iD from h) ()
 .exact cJ (show(jA:Str)=iD from h) ()
 .exact cJ (show(iR:Str)=iD from h) ()
 .exact(n1 h).elim
def uE(nm:Str)(cb:cS)(p:Pc):cS:=match p with
 | .text b=>b
 |p=>if p.name=nm then cb else []
def qa{nm:Str}{cb:cS}{p:Pc}(h:p.name≠iD):uE nm cb p=if p.name=nm then cb else []:=by
 cases p with
 |text b=>exact(h rfl).elim
 |_=>rfl
def ax1(T:TX P w K mg)(TP:lB K C.piece)(F:dM K "put_in" "put_in" QY f fd):dJ P w K mg base cY 1 f fd ["pieces","name","codes"] (F4 K C):=by
 refine F.oK Pn λc8 A outer s H vs Q E hr h=>?_;obtain⟨a,as,ps,H0,nm,b,cb,rfl,hS,hlen,hP,hN,hF,hnm,hb,hcb,k⟩:=h;have nd:=Pn.nd;have hl:=hP.length;refine⟨_,(cW (dN (i:=3) nd (fJ ir))
  (cW (kN cA rfl (gR (pv 0)) (fF (i:=4) nd) (cX (dO (dj dU (dH (pv 4) rfl) eH) (cX (iO (gk b7 cP cQ qY (pv 3) (cT (dH (pv 4) rfl))))) (cX (dO (dj dU (dH (pv 4) rfl) (pv 1)) (cX (iO (gk b7 cP cQ qY (pv 3) (cT (pv 2))))) dX)))))
  (cX (dh (pv 3))))),?_⟩
 refine⟨aP _,λD hD=>?_⟩;have sD:=cR.upd (o:=.lst []) hD;refine⟨a,rfl,⟨_,sD.seq hS⟩,vM (K:=K) (a:=a) (xs:=as.map V.ref) (λi σ H'=>∃(done:cS) (v4:Option V),σ=[some (.ref a),some (.str nm),some (.ref b),some (.ref D),v4]/\cR H H'/\H' D=some (.lst (bv done))/\done.length<=4096*i/\jj nm cb ps=done++jj nm cb (ps.drop i))
  ⟨[],none,rfl,sD,cV,aI _,rfl⟩ (λi σ H' _ ⟨_,_,_,sm,_⟩=>sm.seq hS) ?_ ?_⟩
 .rintro i x σ H' hx ⟨done,v4,rfl,sm,gC,n9,eS⟩;rw[aR]at hx;obtain⟨pa,tK,rfl⟩:=aG.mp hx;obtain⟨p,hp,e,rO⟩:=A2.get (hP.same sm) tK;have gv:i<ps.length:=(aD.mp hp).1;have rS:=hF p (bx hp);obtain⟨v,dx,fU,hv,f1,f2⟩:=rO.fields;rw[gh hp]at eS;have eS:jj nm cb ps=done++(uE nm cb p++jj nm cb (ps.drop (i+1))):=eS;have u_:=hN p (bx hp)
  by_cases ht:p.name=iD
  .obtain⟨bb,rfl⟩:=YK u_ ht;obtain⟨q,rfl,_,hq⟩:=hv;have hFb:bb.length<=255:=rS;exact⟨pa,C.piece,dx,_,_,rfl,fU,TP.cl,TP.fz,fu,rfl,true,kH rfl,dZ ⟨.inl ⟨rfl,_,cU.of gC⟩,pa,C.piece,dx,_,_,rfl,fU,TP.cl,TP.jz,jy,D,q,_,_,rfl,rfl,gC,hq,(by rw[eB,eB];show _<=2^24;lia),done++bb,_,rfl,sm.off hD,by rw[cV,jK],by rw[aC];lia,by rw[eS,bw];rfl⟩⟩
  .rw[qa ht]at eS
   by_cases hm:p.name=nm
   .rw[ah hm]at eS;exact⟨pa,C.piece,dx,_,_,rfl,fU,TP.cl,TP.fz,fu,rfl,false,fY ht,dB ⟨pa,C.piece,dx,_,_,rfl,fU,TP.cl,TP.fz,fu,rfl,true,kH hm,dZ ⟨.inl ⟨rfl,_,cU.of gC⟩,D,b,_,_,rfl,rfl,gC,sm _ _ hb,(by rw[eB,eB];show _<=2^24;lia),done++cb,_,rfl,sm.off hD,by rw[cV,jK],by rw[aC];lia,by rw[eS,bw]⟩⟩⟩
   .rw[aa hm]at eS;exact⟨pa,C.piece,dx,_,_,rfl,fU,TP.cl,TP.fz,fu,rfl,false,fY ht,dB ⟨pa,C.piece,dx,_,_,rfl,fU,TP.cl,TP.fz,fu,rfl,false,fY hm,dB ⟨done,_,rfl,sm,gC,(),eS⟩⟩⟩
 .rintro σ H' ⟨done,v4,rfl,sm,gC,n9,eS⟩;rw[az,hl,List.drop_length]at eS;have:jj nm cb ps=done:=by rw[eS];exact aU _
  rw[this]at k;exact(k D H' sm gC)
abbrev Q_:Stmt:=top 80
def aF2:dP ["condition","number"] ["condition","number"] (c9 Q_):=dW
inductive OU(C:Addr)(vs:List V)(H:Hp)(Q:VK)(z3:XK):Prop|m(q z)(x n:Int)(_:vs=[.ref q,.int n])(_:xV C H q (.str z) (.int x))(_:z∈oW)(_:Q (.bl (holds (pF z,x) n)) H)
def ae8{z:Str}(h:z∈oW):z="<="\/z=">="\/z="<>"\/z="<"\/z=">"\/z="=":=by
 unfold oW at h;simpa using h
def ay2{f C:Addr}(TC:DJ K C)(F:dM K "holds" "holds" Q_ f fd):dJ P w K mg base cY 1 f fd ["condition","number"] (OU C):=by
 refine F.oK aF2 λc8 A outer s H vs Q E hr h=>?_;obtain⟨q,z,x,n,rfl,⟨dx,hq⟩,hz,k⟩:=h;refine⟨_,(cW (dO (dj dU (dH (pv 0) rfl) eH) (cX (dh (fQ iJ (pv 1) (dH (pv 0) rfl)))) dX)
  (cW (dO (dj dU (dH (pv 0) rfl) eH) (cX (dh (fQ Qg (pv 1) (dH (pv 0) rfl)))) dX)
  (cW (dO (dj dU (dH (pv 0) rfl) eH) (cX (dh (fQ wu (pv 1) (dH (pv 0) rfl)))) dX)
  (cW (dO (dj dU (dH (pv 0) rfl) eH) (cX (dh (fQ jg (pv 1) (dH (pv 0) rfl)))) dX)
  (cW (dO (dj dU (dH (pv 0) rfl) eH) (cX (dh (fQ iV (pv 1) (dH (pv 0) rfl)))) dX)
  (cX (dh (fQ dU (pv 1) (dH (pv 0) rfl))))))))),?_⟩
 rcases ae8 hz with rfl|rfl|rfl|rfl|rfl|rfl
 .exact⟨q,C,dx,_,_,rfl,hq,TC.cl,TC.iY,jc,rfl,true,kH rfl,dZ ⟨q,C,dx,_,_,rfl,hq,TC.cl,TC.uA,vn,_,_,rfl,rfl,k⟩⟩
 .exact⟨q,C,dx,_,_,rfl,hq,TC.cl,TC.iY,jc,rfl,false,fY (),dB ⟨q,C,dx,_,_,rfl,hq,TC.cl,TC.iY,jc,rfl,true,kH rfl,dZ ⟨q,C,dx,_,_,rfl,hq,TC.cl,TC.uA,vn,_,_,rfl,rfl,k⟩⟩⟩
 .refine⟨q,C,dx,_,_,rfl,hq,TC.cl,TC.iY,jc,rfl,false,fY (),dB ⟨q,C,dx,_,_,rfl,hq,TC.cl,TC.iY,jc,rfl,false,fY (),dB ⟨q,C,dx,_,_,rfl,hq,TC.cl,TC.iY,jc,rfl,true,kH rfl,dZ ⟨q,C,dx,_,_,rfl,hq,TC.cl,TC.uA,vn,rfl,?_⟩⟩⟩⟩;have e:holds (pF "<>",x) n= !decide (V.int n=V.int x):=by
   show(n != x)=_;rw[bne];congr 1;rw[bC];simp
  rw[e]at k;exact k
 .exact⟨q,C,dx,_,_,rfl,hq,TC.cl,TC.iY,jc,rfl,false,fY (),dB ⟨q,C,dx,_,_,rfl,hq,TC.cl,TC.iY,jc,rfl,false,fY (),dB ⟨q,C,dx,_,_,rfl,hq,TC.cl,TC.iY,jc,rfl,false,fY (),dB ⟨q,C,dx,_,_,rfl,hq,TC.cl,TC.iY,jc,rfl,true,kH rfl,dZ ⟨q,C,dx,_,_,rfl,hq,TC.cl,TC.uA,vn,_,_,rfl,rfl,k⟩⟩⟩⟩⟩
 .exact⟨q,C,dx,_,_,rfl,hq,TC.cl,TC.iY,jc,rfl,false,fY (),dB ⟨q,C,dx,_,_,rfl,hq,TC.cl,TC.iY,jc,rfl,false,fY (),dB ⟨q,C,dx,_,_,rfl,hq,TC.cl,TC.iY,jc,rfl,false,fY (),dB ⟨q,C,dx,_,_,rfl,hq,TC.cl,TC.iY,jc,rfl,false,fY (),dB ⟨q,C,dx,_,_,rfl,hq,TC.cl,TC.iY,jc,rfl,true,kH rfl,dZ ⟨q,C,dx,_,_,rfl,hq,TC.cl,TC.uA,vn,_,_,rfl,rfl,k⟩⟩⟩⟩⟩⟩
 .refine⟨q,C,dx,_,_,rfl,hq,TC.cl,TC.iY,jc,rfl,false,fY (),dB ⟨q,C,dx,_,_,rfl,hq,TC.cl,TC.iY,jc,rfl,false,fY (),dB ⟨q,C,dx,_,_,rfl,hq,TC.cl,TC.iY,jc,rfl,false,fY (),dB ⟨q,C,dx,_,_,rfl,hq,TC.cl,TC.iY,jc,rfl,false,fY (),dB ⟨q,C,dx,_,_,rfl,hq,TC.cl,TC.iY,jc,rfl,false,fY (),dB ⟨q,C,dx,_,_,rfl,hq,TC.cl,TC.uA,vn,rfl,?_⟩⟩⟩⟩⟩⟩;have e:holds (pF "=",x) n=decide (V.int n=V.int x):=by
   show(n==x)=_;rw[bC];simp
  rw[e]at k;exact k
end
abbrev oO(c:eZ):Option (Nat×Int):=c.cond.map λx=>(pF x.1,x.2)
theorem J6:∀{ls:List (List Pc)} {cs:List eZ},lG ls=some cs->∀c∈cs,c.cond=(c.ps.filterMap jN).head?
 |[],cs,h,c,hc=>by
  have e:[]=cs:=aH h;rw[<-e]at hc;cases hc
 |x::r,cs,h,c,hc=>by
  obtain⟨d,hd,h⟩:=aO.mp h;obtain⟨z9,h_,e⟩:=aG.mp h;rw[<-e]at hc;rcases aN.mp hc with rfl|hc
  .unfold nB at hd;split at hd
   .cases hd
   .obtain⟨k,_,e⟩:=aG.mp hd;rw[<-e]
  .exact J6 h_ c hc
structure oR(c:eZ):Prop where
 good:∀p∈c.ps,Good p
 nQ:∀p∈c.ps,iM p
 cond:∀x,c.cond=some x->x.1∈oW
 kind:Sv68.kindOf (lp c.ps)=some c.kind
def ah8{b:cS}{cs:List eZ}(h:iy b=some cs):∀c∈cs,∀x,c.cond=some x->x.1∈oW:=by
 have hf:=Mu h;unfold iy at h;split at h
 .cases h
 .obtain⟨ls,mT,h⟩:=aO.mp h;obtain⟨c',ia,h⟩:=aO.mp h;split at h
  .rw[aH h]at ia;intro c hc x hx;rw[J6 ia c hc]at hx;have hm:=List.mem_of_head? hx;obtain⟨p,hp,e⟩:=List.mem_filterMap.mp hm;have:=(hf c hc p hp).2;cases p with
   |condition z v=>obtain rfl:=aH e;exact this
   |_=>cases e
  .cases h
def Qa{b:cS}{cs:List eZ}(h:iy b=some cs):∀c∈cs,oR c:=by
 intro c hc;refine⟨ah7 h c hc,λp hp=>(Mu h c hc p hp).2,ah8 h c hc,?_⟩;obtain⟨l,_,hA⟩:=(NR b).1 cs h;obtain⟨s,_,hs⟩:=A2.zd hA hc;rw[<-hs.pieces];exact hs.kind
section
abbrev Rb:Stmt:=top 171
def aF3:dP ["section","at","many","number"] ["section","at","many","number"] (c9 Rb):=dW
inductive OW(C:Cs)(CS:Addr)(vs:List V)(H:Hp)(Q:VK)(z3:XK):Prop|m(a c H0)(i n:Nat)(z:Int)(_:vs=[.ref a,.int i,.int n,.int z])(_:kR C CS H0 H a c)(_:oR c)(_:i<n)(_:n<=3)(_:Q (.bl (fitsAt n i (oO c) z)) H)
def ay4{f CS:Addr}(T:TX P w K mg)(TS:rY K CS)(aq6:Own P w K mg base cY 1 "holds" ["condition","number"] (OU C.condition))(F:dM K "fits" "fits" Rb f fd):dJ P w K mg base cY 2 f fd ["section","at","many","number"] (OW C CS):=by
 refine F.oK aF3 λc8 A outer s H vs Q E hr h=>?_;obtain⟨a,c,H0,i,n,z,rfl,hA,hok,hi,hn,k⟩:=h;refine⟨_,(cW (dO (dj Bd (dH (pv 0) rfl) sH) (cX (dh (dF aq6 hr (c_ (dH (pv 0) rfl) (cT (pv 3)))))) dX)
  (cW (dO (dj dU (pv 1) (dm iI (pv 2) cZ)) (cX (dh mG)) dX)
  (cW (dO (dj dU (pv 1) (dG T.L6)) (cX (dh (fQ jg (pv 3) cZ))) dX)
  (cX (dh (gD (dj dU (pv 2) cZ) (fQ Qg (pv 3) cZ) (fQ iV (pv 3) cZ))))))),?_⟩
 obtain⟨v,pl,dx,hb,hv,_,_,B7⟩:=hA.fields;refine⟨a,CS,dx,_,_,rfl,hb,TS.cl,TS.xW,xO,rfl,_,rfl,?_⟩;rw[B7,Bool.not_not];cases hc:c.cond with
 |some x=>
  rw[hc]at hv;obtain⟨q,rfl,hq⟩:=hv;unfold oO at k;rw[hc]at k;exact dZ ⟨a,CS,dx,_,_,rfl,hb,TS.cl,TS.xW,xO,q,x.1,x.2,z,rfl,hq,hok.cond x hc,k⟩
 |none=>
  unfold oO at k;rw[hc]at k;have k:Q (.bl (if n=1 then true else if n=2 then(if i=0 then decide (0<=z)else true)else if i=0 then decide (0<z)else if i=1 then decide (z<0)else true)) H:=k;refine dB ⟨_,_,rfl,rfl,rfl,_,rfl,dw (λy=>?_) (λy=>?_)⟩
  .have y1:(i:Int)=(n:Int)-1:=V.int.inj (aj y);have e:(if n=1 then true else if n=2 then(if i=0 then decide (0<=z)else true)else if i=0 then decide (0<z)else if i=1 then decide (z<0)else true)=true:=by
    by_cases e1:n=1
    .rw[ah e1]
    .rw[aa e1]
     by_cases e2:n=2
     .rw[ah e2,aa ()]
     .rw[aa e2,aa (),aa ()]
   rw[e]at k;exact k
  .have y1:¬i=n-1:=λe=>y (ak (cI V.int (show(i:Int)=(n:Int)-1 by lia)));rw[aa (show¬n=1 by lia)]at k;refine⟨rfl,_,rfl,dw (λy=>?_) (λy=>?_)⟩
   .have y2:i=1:=by have:=V.int.inj (aj y);lia
    rw[aa (show¬n=2 by lia),aa (show¬i=0 by lia),ah y2]at k;exact⟨_,_,rfl,rfl,k⟩
   .have y2:¬i=1:=λe=>y (by rw[e];rfl);have y3:i=0:=();rw[ah y3,ah y3]at k;refine⟨rfl,_,rfl,dw (λy=>?_) (λy=>?_)⟩
    .rw[ah (show n=2 by have:=V.int.inj (aj y);lia)]at k;exact⟨_,_,rfl,rfl,k⟩
    .rw[aa (show¬n=2 from λe=>y (by rw[e];rfl))]at k;exact⟨_,_,rfl,rfl,k⟩
def k6(cs:List eZ):Bool:=decide (cs.length=4)||decide (cs.getLast?.map (λc=>c.kind)=some 3)
abbrev QI:Stmt:=top 124
def aE3:dP ["sections"] ["sections"] (c9 QI):=dW
inductive F2(K:b6)(C:Cs)(CS:Addr)(vs:List V)(H:Hp)(Q:VK)(z3:XK):Prop|m(a as cs H0)(_:vs=[.ref a])(_:cU K H a (as.map V.ref))(_:as≠[])(_:as.length<=300)(_:Ss C CS H0 H as cs)(_:∀p H',cR H H'->H' p=some (.lst ((if k6 cs=true then as.drop (as.length-1)else []).map V.ref))->Q (.ref p) H')
def Zu(xs:List V)(h:xs≠[]):fH xs (some (-1)) none=xs.drop (xs.length-1):=by
 unfold fH;have hl:0<xs.length:=List.length_pos_iff.mpr h;rw[show HT.e9 xs.length xs.length none=xs.length from rfl,show HT.e9 xs.length 0 (some (-1))=((-1:Int)+(xs.length:Int)).toNat from rfl,show((-1:Int)+(xs.length:Int)).toNat=xs.length-1 by lia];rw[bq (by rw[aQ];exact aI _)]
def av5{f CS:Addr}(T:TX P w K mg)(TS:rY K CS)(F:dM K "text_sections" "text_sections" QI f fd):dJ P w K mg base cY 1 f fd ["sections"] (F2 K C CS):=by
 refine F.oK aE3 λc8 A outer s H vs Q E hr h=>?_;obtain⟨a,as,cs,H0,rfl,hS,dR,hlen,hC,k⟩:=h;have hl:=hC.length;refine⟨_,(cW (dO (PW.pt (mF (dj dU (eN fD rfl T.fq () (cT (pv 0))) (dG T.Dk)) (oE (dj dU (dH (fM fW (pv 0) (sO sE cZ) (λ_ _=>rfl)) rfl) (dG T.As))))) (cX (dh (fP fX (pv 0) (eY (sO sE cZ)) gQ))) dX)
  (cX (dh (fJ ir)))),?_⟩
 unfold k6 at k;rcases bW as with rfl|⟨r,b,rfl⟩
 .exact(dR rfl).elim
 rw[bX]at*;have hlr:(r++[b]).length-1=r.length:=by rw[aC];rfl
 obtain⟨c,hc,jP⟩:=A2.get (i:=r.length) (x:=b) hC (by rw[bN (aI _),Nat.sub_self];rfl);have zM:cs.getLast? =some c:=by
  rw[List.getLast?_eq_getElem?,<-hl,hlr];exact hc
 rw[zM,<-hl]at k;obtain⟨v,pl,dx,hb,hv,_,_,B7⟩:=jP.fields;have hk:decide (some c.kind=some 3)=decide (c.kind=3):=au.mpr ⟨aH,λe=>by rw[e]⟩;rw[show(some c).map (λc:eZ=>c.kind)=some c.kind from rfl,hk]at k;have Ca:fH ((r++[b]).map V.ref) (some (-1)) none=(((r++[b]).drop ((r++[b]).length-1)).map V.ref):=by
  rw[Zu _ (by simp),az,<-bH]
 refine⟨a,_,rfl,.inl hS,rfl,_,rfl,dw (λy=>?_) (λy=>?_)⟩
 .have y1:(r++[b]).length=4:=by
   have:=V.int.inj (aj y);rw[az]at this;lia
  rw[ak y1,Bool.true_or,ah rfl]at k;refine⟨1,rfl,-1,rfl,a,_,rfl,hS,?_⟩;rw[Ca];exact λp hp=>k p _ (cR.upd hp) cV
 .have y1:¬(r++[b]).length=4:=λe=>y (by rw[az,e];rfl);rw[ao y1,Bool.false_or]at k;refine⟨1,rfl,a,_,_,_,rfl,rfl,hS,(by rw[bf];exact L_ _ _),b,CS,dx,_,_,rfl,hb,TS.cl,TS.vZ,vo,rfl,_,rfl,dw (λy=>?_) (λy=>?_)⟩
  .have y2:c.kind=3:=by have:=V.int.inj (aj y);lia
   rw[ak y2,ah rfl]at k;refine⟨1,rfl,-1,rfl,a,_,rfl,hS,?_⟩;rw[Ca];exact λp hp=>k p _ (cR.upd hp) cV
  .have y2:¬c.kind=3:=λe=>y (by rw[e];rfl);rw[ao y2,aa ()]at k;exact⟨aP _,λp hp=>k p _ (cR.upd hp) cV⟩
abbrev Q0:Stmt:=top 125
def aF0:dP ["sections"] ["sections"] (c9 Q0):=dW
def wH(as:List Addr)(cs:List eZ):List Addr:=if k6 cs=true then as.dropLast else as
inductive OM(K:b6)(C:Cs)(CS:Addr)(vs:List V)(H:Hp)(Q:VK)(z3:XK):Prop|m(a as cs H0)(_:vs=[.ref a])(_:cU K H a (as.map V.ref))(_:as≠[])(_:as.length<=300)(_:Ss C CS H0 H as cs)(_:∀p H',cR H H'->H' p=some (.lst ((wH as cs).map V.ref))->Q (.ref p) H')
def ax3{f CS:Addr}(T:TX P w K mg)(Dl:Own P w K mg base cY 1 "text_sections" ["sections"] (F2 K C CS))(F:dM K "number_sections" "number_sections" Q0 f fd):dJ P w K mg base cY 2 f fd ["sections"] (OM K C CS):=by
 refine F.oK aF0 λc8 A outer s H vs Q E hr h=>?_;obtain⟨a,as,cs,H0,rfl,hS,dR,hlen,hC,k⟩:=h;refine⟨_,(cX (dh (fP fX (pv 0) gQ (eY (dm iI (eN fD rfl T.fq () (cT (pv 0))) (eN fD rfl T.fq () (cT (dF Dl hr (cT (pv 0)))))))))),?_⟩;have hl0:0<as.length:=List.length_pos_iff.mpr dR;refine⟨a,_,rfl,.inl hS,a,as,cs,H0,rfl,hS,dR,hlen,hC,λp H1 s1 hp=>?_⟩;unfold wH at k;have e:∃m:Nat,((as.map V.ref).length:Int)-((((if k6 cs=true then as.drop (as.length-1)else []).map V.ref).length:Nat):Int)=(m:Nat)/\as.take m=if k6 cs=true then as.dropLast else as:=by
  by_cases h:k6 cs=true
  .rw[ah h,ah h];refine⟨as.length-1,?_,List.dropLast_eq_take.symm⟩;rw[az,az,aQ];lia
  .rw[aa h,aa h];refine⟨as.length,?_,List.take_length⟩;rw[az];show(as.length:Int)-0=_;lia
 obtain⟨m,e1,e2⟩:=e;refine⟨p,_,rfl,.inl (cU.of hp),_,_,rfl,rfl,(m:Int),cI V.int e1,a,_,rfl,s1.seq hS,?_⟩;rw[sI,<-bI,e2];exact λp2 fS=>k p2 _ (s1.trans (cR.upd fS)) cV
end
def uv(v1 v2:V):List (Str×V):=(eG "codes" v2 (eG "colour" v1 []))
def Vm{v1 v2:V}:(uv v1 v2).lookup ("colour":Str)=some v1:=by
 unfold uv;rw[eO,aa (),eO,ah rfl]
def Jh{v1 v2:V}:(uv v1 v2).lookup ("codes":Str)=some v2:=by
 unfold uv;rw[eO,ah rfl]
structure EE(K:b6)(C:Addr):Prop where
 cl:lq K C
 vJ:gz K C "colour"
 sr:gz K C "codes"
def af7(C:Addr)(H:Hp)(a:Addr)(v1 v2:V):Prop:=∃dx,H a=some (.ins C dx (uv v1 v2))
abbrev Ln:Stmt:=inClass (top 166) 0
inductive AS(C:Addr)(vs:List V)(H:Hp)(Q:VK)(z3:XK):Prop|m(p dx:Addr)(v1 v2:V)(_:vs=[.ref p,v1,v2])(_:H p=some (.ins C dx []))(_:Q .dI (upd H p (.ins C dx (uv v1 v2))))
def Z3:dP ["self","colour","codes"] ["self","colour","codes"] (c9 Ln):=dW
def ac1{P:Program}{w:World}{K:b6}{mg:Str->Option Value}{base:Heap}{f C:Addr}(T:EE K C)(F:dM K "__init__" "Shown.__init__" Ln f fd):dJ P w K mg base cY 1 f fd ["self","colour","codes"] (AS C):=by
 refine F.oK Z3 λc8 A outer s H vs Q E hr h=>?_;obtain⟨p,dx,v1,v2,rfl,hp,k⟩:=h;refine⟨_,(cW (iC (pv 0) (pv 1) rfl) (cX (iC (pv 0) (pv 2) rfl))),?_⟩;refine⟨p,C,dx,[],rfl,hp,T.cl,T.vJ,(by show 0<1000;decide),?_⟩;refine⟨p,C,dx,_,rfl,cV,T.cl,T.sr,(by show 1<1000;decide),?_⟩;rw[jd];exact k
inductive RS(CW:Addr)(H:Hp)(p:Addr)(n:Nat)(b:cS):Prop|m(q)(_:af7 CW H p (.int (n:Nat)) (.ref q))(_:H q=some (.lst (bv b)))
def lV(CW:Addr)(H:Hp)(Q:VK)(n:Nat)(b:cS):Prop:=∀p H',cR H H'->RS CW H' p n b->Q (.ref p) H'
def lV.new{CW:Addr}{H H1:Hp}{Q:VK}{n:Nat}{b:cS}{q x dx:Addr}(k:lV CW H Q n b)(s:cR H H1)(hq:H1 q=some (.lst (bv b)))(hx:H1 x=none)(eU:H1 dx=none):Q (.ref x) (upd (upd (upd H1 dx (.own x)) x (.ins CW dx [])) x (.ins CW dx (uv (.int (n:Nat)) (.ref q)))):=
 k x _ (s.ins hx eU) ⟨q,⟨dx,cV⟩,((cR.refl H1).ins hx eU) _ _ hq⟩
theorem AU{nm:Str}{cb:cS}(hc:cb.length<=4096):∀{ps:List Pc},(∀p∈ps,iM p)->(jj nm cb ps).length<=4096*ps.length
 |[],_=>aI _
 |p::ps,h=>by
  have ih:=AU (nm:=nm) hc (ps:=ps) λq hq=>h q (aA _ hq);have hp:=h p aB;show(uE nm cb p++jj nm cb ps).length<=_;rw[aC,aK];have:(uE nm cb p).length<=4096:=by
   cases p with
   |text b=>exact aV hp ()
   |_=>
    dsimp only[uE];split
    .exact hc
    .exact aP _
  lia
def Aq{n:Nat}(h:n<10^90):(generalOf n).length<=4096:=by
 have h1:=j7 (k:=90) () (bB (Nat.div_le_self n (10^12)) h);have h2:(Sv68.padded 12 (n%10^12)).length=12:=Eb () (Nat.mod_lt _ ());have h3:(lM (Sv68.padded 12 (n%10^12))).length<=12:=by
  unfold lM;rw[bF];refine aV (List.dropWhile_suffix _).length_le ?_;rw[bF];lia
 show(Sv68.decimal (n/10^12)++(if lM (Sv68.padded 12 (n%10^12))=[]then []else 46::lM (Sv68.padded 12 (n%10^12)))).length<=_;rw[aC];split
 .show _+0<=_;lia
 .rw[aK];lia
def LS{ps:List Pc}{n:Nat}(hG:∀p∈ps,Good p)(hF:∀p∈ps,iM p)(hD:IW ps)(hl:ps.length<=300)(hn:n<10^36):(kF ps n).1.length<=200000:=by
 have qT:∀p∈pA ps,Named p:=λp hp=>(hG p ((aT fj).mem hp)).1;have zT:∀p∈pA ps,iM p:=λp hp=>hF p ((aT fj).mem hp);have hA:(pA ps).length<=ps.length:=(aT fj).length_le;have nT:=hD.w;have tH:=hD.t;unfold kF;rcases hD.ex with e|⟨c,R,e,e3,e4,e5⟩
 .rw[e];dsimp only;have Iq:lU ps<=10^8:=aV (bL () hD.pc) ();have tp:10^(eL (pT ps)).length<=10^12:=bL () tH;have CY:0<mQ ps:=Nat.mul_pos () (Nat.pow_pos ());have xg:Sv68.rounded (n*lU ps*10^(eL (pT ps)).length) (mQ ps)<10^90:=by
   refine bB (J7 CY) ?_;have h1:n*lU ps*10^(eL (pT ps)).length<=10^36*10^8*10^12:=Nat.mul_le_mul (Nat.mul_le_mul (Nat.le_of_lt hn) Iq) tp;exact bB (Nat.add_le_add_right h1 1) ()
  have:=Ek (A:=pA ps) (w:=eL (pW ps)) (t:=eL (pT ps)) (g:=lO ((pW ps).map Pc.name)) qT zT xg;lia
 .rw[e];dsimp only;have hn6:n<10^60:=bh hn ();obtain⟨f1,f2⟩:=Ka e5 nT hn6;have zq:10^((eL (pW ps)).length+(eL (pT ps)).length)<10^90:=Nat.pow_lt_pow_right () ();have hq:(SH.lJ (eL (pT ps)).length (eL (pW ps)).length n).2<10^90/\-1000<=(SH.lJ (eL (pT ps)).length (eL (pW ps)).length n).1/\(SH.lJ (eL (pT ps)).length (eL (pW ps)).length n).1<=1000:=by
   unfold SH.lJ;dsimp only;split
   .exact⟨bB (AD e5 ()) zq,(),()⟩
   .exact⟨bB (AD e5 (Int.le_refl _)) zq,(),()⟩
  obtain⟨q1,q2,q3⟩:=hq;generalize SH.lJ (eL (pT ps)).length (eL (pW ps)).length n=x at*;have:=Ek (A:=pA ps) (w:=eL (pW ps)) (t:=eL (pT ps)) (g:=lO ((pW ps).map Pc.name)) qT zT q1;rw[aC];have le:(lK c (gA R) x.1).length<=100:=by
   unfold lK;rw[aK,aC,oh];have:=j7 (k:=4) () (show x.1.natAbs<10^4 by lia);have:(if x.1<0 then [45]else if c=43 then [43]else []:cS).length<=1:=by
    split
    .decide
    .split<;>decide
   lia
  lia
section
abbrev QK:Stmt:=top 168
def aE5:dP ["sections","text"] ["sections","text"] (c9 QK):=dW
def yQ(cs:List eZ)(b:cS):Nat×cS:=match cs with
 |[]=>(0,b)
 |c::_=>(c.colour,jj gG b c.ps)
inductive Ox(K:b6)(C:Cs)(CS CW:Addr)(vs:List V)(H:Hp)(Q:VK)(z3:XK):Prop|m(a as cs H0 q b)(_:vs=[.ref a,.ref q])(_:cU K H a (as.map V.ref))(_:Ss C CS H0 H as cs)(_:(∀c∈cs,oR c))(_:H q=some (.lst (bv b)))(_:b.length<=4096)(_:lV CW H Q (yQ cs b).1 (yQ cs b).2)
def av8{f CS CW:Addr}(T:TX P w K mg)(TS:rY K CS)(EF:Own P w K mg base cY 1 "put_in" ["pieces","name","codes"] (F4 K C))(rm:jD P w K mg base cY 1 CW "Shown" ["self","colour","codes"] (AS CW))(F:dM K "show_text" "show_text" QK f fd):dJ P w K mg base cY 3 f fd ["sections","text"] (Ox K C CS CW):=by
 refine F.oK aE5 λc8 A outer s H vs Q E hr h=>?_;obtain⟨a,as,cs,H0,q,b,rfl,hS,hC,hok,hq,hb,k⟩:=h;have iG:=hr.units;refine⟨_,(cW (dO (dj (aa9 iG) (pv 0) (fJ ir)) (cX (dh (iQ rm hr (c_ (dG T.xZ) (cT (pv 1)))))) dX)
  (cX (dh (iQ rm hr (c_ (dH (fM fW (pv 0) cZ (λ_ _=>rfl)) rfl) (cT (dF EF hr (c_ (dH (fM fW (pv 0) cZ (λ_ _=>rfl)) rfl) (c_ eH (cT (pv 1))))))))))),?_⟩
 refine⟨aP _,λp hp=>?_⟩;have s1:=cR.upd (o:=.lst []) hp;refine⟨a,p,_,rfl,rfl,s1.seq hS,cU.of cV,_,rfl,?_⟩;generalize upd H p (.lst [])=H1 at*;cases hC with
 |nil=>exact dZ (λx dx hx eU dR=>⟨x,dx,_,_,rfl,cV,rfl,lV.new (n:=0) k s1 (s1 _ _ hq) hx eU⟩)
 |@cons e c as cs r t=>
  have RD:=hok c aB;obtain⟨v,pl,⟨dx,he⟩,hv,_,jw,fh,pP,qP⟩:=r;have k:lV CW H Q c.colour (jj gG b c.ps):=k;have RH:c.ps.length<=300:=by rw[<-A2.length qP];exact pP
  refine dB ⟨a,_,_,_,rfl,rfl,s1.seq hS,eV (j:=0) (v:=.ref e) rfl,e,CS,dx,_,_,rfl,s1 _ _ he,TS.cl,TS.vJ,IY,a,_,_,_,rfl,rfl,s1.seq hS,eV (j:=0) (v:=.ref e) rfl,e,CS,dx,_,_,rfl,s1 _ _ he,TS.cl,TS.sf,Af,pl,jw,c.ps,H0,gG,q,b,rfl,cU.of (s1 _ _ fh),pP,Ps.same s1 qP,λp hp=>(RD.good p hp).1,RD.nQ,(),s1 _ _ hq,hb,λp3 H3 s3 gB=>?_⟩;exact λx dx hx eU dR=>⟨x,dx,_,_,rfl,cV,rfl,lV.new k (s1.trans s3) gB hx eU⟩
abbrev BS:Stmt:=top 172
def Pg:dP ["section","at","number","has_minus","shown"] ["section","at","number"] (c9 BS):=dW
def kD(c:eZ)(i:Nat)(z:Int):Bool:=decide (z<0)&&(!decide (i=1)||c.cond.isSome)
noncomputable def kT(c:eZ)(i:Nat)(z:Int):Option cS:=if c.kind=2 then tu c.ps z else if c.kind=1 then some (kU (kD c i z&& !(kF c.ps z.natAbs).2) (kF c.ps z.natAbs).1)else some (kU (kD c i z) (jj fK (generalOf z.natAbs) c.ps))
inductive OG(C:Cs)(CS CN:Addr)(vs:List V)(H:Hp)(Q:VK)(E:XK):Prop|m(a c H0)(i:Nat)(z:Int)(_:vs=[.ref a,.int i,.int z])(_:kR C CS H0 H a c)(_:oR c)(_:z.natAbs<10^36)(_:(∀H',cR H H'->kT c i z=none->E (.ref CN) none H'))(_:∀o,kT c i z=some o->jE H Q o)
def aw6{f CS CD:Addr}(T:TX P w K mg)(TS:rY K CS)(TD:AO K CD)(XO:Own P w K mg base (fO P w CN) 5 "show_time" ["pieces","number"] (OC K C CN))(Wr:Own P w K mg base cY 6 "show_digits" ["pieces","number"] (OE K C CD))(Al:Own P w K mg base cY 1 "with_minus" ["has_minus","codes"] F0)(EF:Own P w K mg base cY 1 "put_in" ["pieces","name","codes"] (F4 K C))(DZ:Own P w K mg base cY 3 "as_it_is" ["number"] F8)(F:dM K "show_by_section" "show_by_section" BS f fd):dJ P w K mg base (fO P w CN) 7 f fd ["section","at","number"] (OG C CS CN):=by
 refine F.oX Pg λc8 A outer s H vs Q E hr h xk hp=>?_;obtain⟨a,c,H0,i,z,rfl,hA,hok,hz,k0,k1⟩:=h;have nd:=Pg.nd;obtain⟨v,pl,⟨dx,he⟩,hv,_,jw,fh,pP,qP⟩:=hA;have RH:c.ps.length<=300:=by rw[<-A2.length qP];exact pP
 have hN:∀p∈c.ps,Named p:=λp hp=>(hok.good p hp).1;have B9:((z.natAbs:Nat):Int)=if z<0 then-z else z:=by split<;>lia
 unfold kT at k0 k1;obtain⟨t2,mR,main⟩:∃t2,gb (gJ (fO P w CN) P w K mg base ["section","at","number","has_minus","shown"] "show_by_section" (c9 BS) f c8 A outer s H E) ((gH BS).drop 2) t2/\(¬c.kind=2->t2 {nx:=λ_ H'=>Q .dI H',rt:=Q} [some (.ref a),some (.int (i:Nat)),some (.int z),some (.bl (kD c i z)),none] H):=by
  refine⟨_,(cW (dO (dj dU (dH (pv 0) rfl) (dG T.L8)) (cW (dN (i:=4) nd (dF Wr hr (c_ (dH (pv 0) rfl) (cT (eN A1 rfl T.BL () (cT (pv 2)))))))
  (cX (dh (dF Al hr (c_ (mC (pv 3) (kh (NW (dH (pv 4) rfl)))) (cT (dH (pv 4) rfl))))))) dX)
  (cX (dh (dF Al hr (c_ (pv 3) (cT (dF EF hr (c_ (dH (pv 0) rfl) (c_ eH (cT (dF DZ hr (cT (eN A1 rfl T.BL () (cT (pv 2))))))))))))))),λh2=>?_⟩
  rw[aa h2]at k1;refine⟨a,CS,dx,_,_,rfl,he,TS.cl,TS.vZ,vo,rfl,_,rfl,dw (λy=>?_) (λy=>?_)⟩
  .have y1:c.kind=1:=by have:=V.int.inj (aj y);lia
   rw[ah y1]at k1;have k1:=k1 _ rfl;have GC:rK (lp c.ps):=Gd (by rw[hok.kind,y1]);have hD:=FH hok.good GC;refine⟨a,CS,dx,_,_,rfl,he,TS.cl,TS.sf,Af,z,rfl,pl,jw,c.ps,H0,z.natAbs,by rw[B9];rfl,cU.of fh,pP,qP,hok.good,hok.nQ,hD,hz,λpd H1 s1 hd=>?_⟩;obtain⟨pc,⟨xG,kI⟩,hd2⟩:=hd;have n9:=LS hok.good hok.nQ hD RH hz;refine⟨kD c i z,rfl,?_⟩;cases hm:kD c i z with
   |true=>
    rw[hm,aY]at k1;exact dZ ⟨pd,CD,xG,_,_,rfl,kI,TD.cl,TD.Ef,IZ,_,rfl,pd,CD,xG,_,_,rfl,kI,TD.cl,TD.sr,Dj,_,pc,_,rfl,hd2,(),λp3 H3 s3 gB=>k1 p3 H3 (s1.trans s3) gB⟩
   |false=>
    rw[hm,aZ]at k1;exact dB ⟨pd,CD,xG,_,_,rfl,kI,TD.cl,TD.sr,Dj,_,pc,_,rfl,hd2,(),λp3 H3 s3 gB=>k1 p3 H3 (s1.trans s3) gB⟩
  .have y1:¬c.kind=1:=λe=>y (by rw[e];rfl);rw[aa y1]at k1;have k1:=k1 _ rfl;have zY:z.natAbs<10^90:=bh hz ();refine⟨a,CS,dx,_,_,rfl,he,TS.cl,TS.sf,Af,z,rfl,z.natAbs,by rw[B9];rfl,zY,λpg H1 s1 HF=>?_⟩;have zM:=Aq zY;refine⟨pl,jw,c.ps,H0,fK,pg,_,rfl,cU.of (s1 _ _ fh),pP,Ps.same s1 qP,hN,hok.nQ,(),HF,zM,λp3 H3 s3 gB=>?_⟩;have aS6:=AU (nm:=fK) zM hok.nQ;exact⟨_,p3,_,rfl,gB,(),λp4 H4 s4 pN=>k1 p4 H4 ((s1.trans s3).trans s4) pN⟩
 refine⟨_,(cW (dO (dj dU (dH (pv 0) rfl) (dG T.Jb)) (cX (dh (kg XO (hr.mono ()) (kQ xk (λ_ z=>z)) (c_ (dH (pv 0) rfl) (cT (pv 2)))))) dX)
  (cW (dN (i:=3) nd (mC (fQ jg (pv 2) cZ) (kh (yG (fQ wu (pv 1) (dG T.L6)) (kh (fQ Bd (dH (pv 0) rfl) sH))))))
  mR)),?_⟩
 refine⟨a,CS,dx,_,_,rfl,he,TS.cl,TS.vZ,vo,rfl,_,rfl,dw (λy=>?_) (λy=>?_)⟩
 .have y1:c.kind=2:=by have:=V.int.inj (aj y);lia
  rw[ah y1]at k0 k1;exact⟨a,CS,dx,_,_,rfl,he,TS.cl,TS.sf,Af,pl,jw,c.ps,H0,z,rfl,cU.of fh,pP,qP,hN,hok.nQ,k0,k1⟩
 .have y1:¬c.kind=2:=λe=>y (by rw[e];rfl);have main:=main y1;unfold kD at main;have B7:decide (v= .dI)= !c.cond.isSome:=by
   cases hc:c.cond with
   |none=>
    rw[hc]at hv;rw[show v= .dI from hv];rfl
   |some x=>
    rw[hc]at hv;obtain⟨q,e,_⟩:=hv;rw[e];rfl
  refine⟨_,_,rfl,rfl,_,rfl,?_⟩;cases So:decide (z<0)with
  |false=>
   rw[So,aZ]at main;exact dB main
  |true=>
   rw[So,aY]at main;refine dZ ⟨rfl,_,rfl,?_⟩;have e1:decide (V.int (i:Int)=V.int 1)=decide (i=1):=au.mpr ⟨λe=>by have:=V.int.inj e;lia,λe=>by rw[e];rfl⟩;rw[e1];cases hi:decide (i=1)with
   |false=>
    rw[hi]at main;exact dZ main
   |true=>
    rw[hi]at main;refine dB ⟨a,CS,dx,_,_,rfl,he,TS.cl,TS.xW,xO,rfl,?_⟩;rw[B7,Bool.not_not];exact main
end
def uW{x y:Int}(h:x=y):V.bl (decide (V.int x=V.int y))=V.bl true:=by rw[h,ak rfl]
def jv{x y:Int}(h:x≠y):V.bl (decide (V.int x=V.int y))=V.bl false:=by rw[ao λz=>h (V.int.inj z)]
inductive mO:Wbk.Value->List Int->Prop
 |empty:mO .empty [0]
 |num (z:Int):mO (.num z) [1,z]
 |text (b:cS):mO (.text b) (2::(b.length:Int)::bi b)
 |truth (z:Int):mO (.truth (z==1)) [3,z]
 |error (k:Nat):mO (.error k) [4,(k:Int)]
noncomputable def qD(cs:List eZ)(z:Int):Option (Nat×cS):=match cs.zipIdx.find? λx=>fitsAt cs.length x.2 (oO x.1) z with
 |none=>some (0,kU (decide (z<0)) (generalOf z.natAbs))
 |some x=>(kT x.1 x.2 z).map λb=>(x.1.colour,b)
noncomputable def De:List Str:=["#DIV/0!","#VALUE!","#REF!","#NAME?","#NUM!","#N/A","#RING!","#ROOM!"]
def aB9:∀j:Fin 8,eX (De.getD j.val "")=bi (errorName (j.val+1))/\(De.getD j.val "").length<=100:=()
def ar4:eX ("TRUE":Str)=bi (Sv68.str "TRUE")/\eX ("FALSE":Str)=bi (Sv68.str "FALSE")/\("TRUE":Str).length<=100/\("FALSE":Str).length<=100:=()
section
abbrev P8:Stmt:=top 68
def at4:dP ["number"] ["number"] (c9 P8):=dW
inductive Np(vs:List V)(H:Hp)(Q:VK)(z3:XK):Prop|m(n:Int)(_:vs=[.int n])(_:Q (.bl (Wbk.fits n)) H)
def ak2(T:TX P w K mg)(F:dM K "is_number" "is_number" P8 f fd):dJ P w K mg base cY 1 f fd ["number"] Np:=by
 refine F.oK at4 λc8 A outer s H vs Q E hr h=>?_;obtain⟨n,rfl,k⟩:=h;refine⟨_,(cX (dh (vH jg jg (sO sE (dG T.JW)) (pv 0) (dG T.JW)))),?_⟩;have e:Wbk.fits n=(decide (-(1000000000000000000000000000000000000:Int)<n)&&decide (n<1000000000000000000000000000000000000)):=rfl;rw[e]at k;refine⟨_,rfl,_,_,rfl,rfl,_,rfl,dw (λq=>?_) (λq=>?_)⟩
 .have q1: -(1000000000000000000000000000000000000:Int)<n:=aj q;rw[ak q1,aY]at k;exact⟨_,_,rfl,rfl,k⟩
 .have q1:¬-(1000000000000000000000000000000000000:Int)<n:=λz=>q (ak z);rw[ao q1,aZ]at k;exact k
abbrev P7:Stmt:=top 69
def at3:dP ["codes"] ["codes"] (c9 P7):=dW
inductive Nn(K:b6)(vs:List V)(H:Hp)(Q:VK)(z3:XK):Prop|m(a b)(_:vs=[.ref a])(_:cU K H a (bv b))(_:∀H',cR H H'->Q (.bl (decide (b.length<=4096)&&Wbk.utf8 b)) H')
def ak1(T:TX P w K mg)(Ds:Own P w K mg base cY 2 "is_well_made" ["codes"] (Fj K))(F:dM K "is_text" "is_text" P7 f fd):dJ P w K mg base cY 3 f fd ["codes"] (Nn K):=by
 refine F.oK at3 λc8 A outer s H vs Q E hr h=>?_;obtain⟨a,b,rfl,hS,k⟩:=h;refine⟨_,(cX (dh (mC (fQ iJ (eN fD rfl T.fq () (cT (pv 0))) (dG T.VV)) (kh (dF Ds hr (cT (pv 0))))))),?_⟩;refine⟨a,_,rfl,.inl hS,_,_,rfl,rfl,_,rfl,dw (λq=>?_) (λq=>?_)⟩
 .have q1:b.length<=4096:=by
   have:=aj q;rw[eB]at this;lia
  refine⟨a,bi b,rfl,hS,FU b,λH' sm=>?_⟩;have:=k H' sm;rw[ak q1,aY]at this;rw[rq];exact this
 .have q1:¬b.length<=4096:=λz=>q (ak (by rw[eB];lia));have:=k H (cR.refl H);rw[ao q1,aZ]at this;exact this
abbrev Q6:Stmt:=top 67
def aF1:dP ["value"] ["value"] (c9 Q6):=dW
inductive OQ(K:b6)(vs:List V)(H:Hp)(Q:VK)(z3:XK):Prop|m(a l v)(_:vs=[.ref a])(_:cU K H a (l.map V.int))(_:mO v l)(_:∀H',cR H H'->Q (.bl v.good) H')
def ax8(T:TX P w K mg)(XU:Own P w K mg base cY 1 "is_number" ["number"] Np)(ZL:Own P w K mg base cY 3 "is_text" ["codes"] (Nn K))(F:dM K "is_value" "is_value" Q6 f fd):dJ P w K mg base cY 4 f fd ["value"] (OQ K):=by
 refine F.oK aF1 λc8 A outer s H vs Q E hr h=>?_;obtain⟨a,l,v,rfl,hS,hv,k⟩:=h;obtain⟨DA,Dz,Du⟩:=T.Js;refine⟨_,(cW (dO (dj dU (fM fW (pv 0) cZ (λ_ _=>rfl)) (dG T.L7)) (cX (dh (dF XU hr (cT (fM fW (pv 0) cZ (λ_ _=>rfl)))))) dX)
  (cW (dO (dj dU (fM fW (pv 0) cZ (λ_ _=>rfl)) (dG T.Oi)) (cX (dh (dF ZL hr (cT (fP fX (pv 0) (eY cZ) gQ))))) dX)
  (cW (dO (dj dU (fM fW (pv 0) cZ (λ_ _=>rfl)) (dG T.ap6)) (cX (dh (vH iJ iJ cZ (fM fW (pv 0) cZ (λ_ _=>rfl)) (eN fD rfl T.fq () (cT (i7 Dz)))))) dX)
  (cX (dh mG))))),?_⟩
 cases hv with
 |empty=>exact⟨a,_,_,_,rfl,rfl,hS,eV (j:=0) (v:=.int 0) rfl,rfl,false,jv (),dB ⟨a,_,_,_,rfl,rfl,hS,eV (j:=0) (v:=.int 0) rfl,rfl,false,jv (),dB ⟨a,_,_,_,rfl,rfl,hS,eV (j:=0) (v:=.int 0) rfl,rfl,false,jv (),dB (k H (cR.refl H))⟩⟩⟩
 |num z=>exact⟨a,_,_,_,rfl,rfl,hS,eV (j:=0) (v:=.int 1) rfl,rfl,true,uW rfl,dZ ⟨a,_,_,_,rfl,rfl,hS,eV (j:=1) (v:=.int z) rfl,z,rfl,k H (cR.refl H)⟩⟩
 |text b=>
  refine⟨a,_,_,_,rfl,rfl,hS,eV (j:=0) (v:=.int 2) rfl,rfl,false,jv (),dB ⟨a,_,_,_,rfl,rfl,hS,eV (j:=0) (v:=.int 2) rfl,rfl,true,uW rfl,dZ ⟨2,rfl,a,_,rfl,hS,?_⟩⟩⟩;rw[show fH (List.map V.int (2::(b.length:Int)::bi b)) (some 2) none=bv b from q_ _ 2];exact λp hp=>⟨p,b,rfl,cU.of cV,λH' s'=>k H' ((cR.upd hp).trans s')⟩
 |truth z=>exact⟨a,_,_,_,rfl,rfl,hS,eV (j:=0) (v:=.int 3) rfl,rfl,false,jv (),dB ⟨a,_,_,_,rfl,rfl,hS,eV (j:=0) (v:=.int 3) rfl,rfl,false,jv (),dB ⟨a,_,_,_,rfl,rfl,hS,eV (j:=0) (v:=.int 3) rfl,rfl,false,jv (),dB (k H (cR.refl H))⟩⟩⟩
 |error e=>
  refine⟨a,_,_,_,rfl,rfl,hS,eV (j:=0) (v:=.int 4) rfl,rfl,false,jv (),dB ⟨a,_,_,_,rfl,rfl,hS,eV (j:=0) (v:=.int 4) rfl,rfl,false,jv (),dB ⟨a,_,_,_,rfl,rfl,hS,eV (j:=0) (v:=.int 4) rfl,rfl,true,uW rfl,dZ ⟨a,_,_,_,rfl,rfl,hS,eV (j:=1) (v:=.int (e:Nat)) rfl,_,_,rfl,rfl,_,rfl,dw (λq=>?_) (λq=>?_)⟩⟩⟩⟩
  .have q1:1<=e:=by have:=aj q;lia
   refine⟨DA,_,rfl,.inr (Du _),_,_,rfl,rfl,?_⟩;have kk:=k H (cR.refl H);have eg:(Wbk.Value.error e).good=decide ((e:Int)<=8):=by
    show(decide (1<=e)&&decide (e<=8))=_;rw[ak q1,aY];exact au.mpr ()
   rw[eg]at kk;exact kk
  .have q1:¬1<=e:=λz=>q (ak ());have kk:=k H (cR.refl H);have eg:(Wbk.Value.error e).good=false:=by
    show(decide (1<=e)&&decide (e<=8))=_;rw[ao q1];rfl
   rw[eg]at kk;exact kk
abbrev Ri:Stmt:=top 66
def aF6:dP ["value"] ["value"] (c9 Ri):=dW
inductive O0(K:b6)(CN:Addr)(vs:List V)(H:Hp)(Q:VK)(E:XK):Prop|m(a l v)(_:vs=[.ref a])(_:cU K H a (l.map V.int))(_:mO v l)(_:(∀H',cR H H'->v.good=false->E (.ref CN) none H'))(_:∀H',cR H H'->v.good=true->Q .dI H')
def az1(T:TX P w K mg)(Vc:OwnCls "WrongArgument" CN bm newId mg base)(FB:ExcBaseFacts B newId lE bm)(YB:Own P w K mg base cY 4 "is_value" ["value"] (OQ K))(F:dM K "demand_value" "demand_value" Ri f fd):dJ P w K mg base (fO P w CN) 5 f fd ["value"] (O0 K CN):=by
 refine F.oX aF6 λc8 A outer s H vs Q E hr h xk hp=>?_;obtain⟨a,l,v,rfl,hS,hv,k0,k1⟩:=h;refine⟨_,(cX (dO (uB (iH (dF YB hr (cT (pv 0))))) (cX (mZ Vc FB rfl xk rfl (cT eH))) dX)),?_⟩;refine⟨a,l,v,rfl,hS,hv,λH1 s1=>⟨_,rfl,?_⟩⟩;cases hg:v.good with
 |false=>exact dZ ⟨(),k0 H1 s1 hg⟩
 |true=>exact dB (k1 H1 s1 hg)
abbrev QS:Stmt:=top 170
def Pe:dP ["sections","number","at","section"] ["sections","number"] (c9 QS):=dW
inductive OD(K:b6)(C:Cs)(CS CW CN:Addr)(vs:List V)(H:Hp)(Q:VK)(E:XK):Prop|m(a as cs H0)(z:Int)(_:vs=[.ref a,.int z])(_:cU K H a (as.map V.ref))(_:as.length<=3)(_:Ss C CS H0 H as cs)(_:(∀c∈cs,oR c))(_:z.natAbs<10^36)(_:(∀H',cR H H'->qD cs z=none->E (.ref CN) none H'))(_:∀o,qD cs z=some o->lV CW H Q o.1 o.2)
def aw4{f CS CW:Addr}(T:TX P w K mg)(TS:rY K CS)(aD0:Own P w K mg base cY 2 "fits" ["section","at","many","number"] (OW C CS))(UP:Own P w K mg base (fO P w CN) 7 "show_by_section" ["section","at","number"] (OG C CS CN))(Al:Own P w K mg base cY 1 "with_minus" ["has_minus","codes"] F0)(DZ:Own P w K mg base cY 3 "as_it_is" ["number"] F8)(rm:jD P w K mg base cY 1 CW "Shown" ["self","colour","codes"] (AS CW))(F:dM K "show_number" "show_number" QS f fd):dJ P w K mg base (fO P w CN) 8 f fd ["sections","number"] (OD K C CS CW CN):=by
 refine F.oX Pe λc8 A outer s H vs Q E hr h xk hp=>?_;obtain⟨a,as,cs,H0,z,rfl,hS,hlen,hC,hok,hz,k0,k1⟩:=h;have nd:=Pe.nd;have hl:=hC.length;have B9:((z.natAbs:Nat):Int)=if z<0 then-z else z:=by split<;>lia
 refine⟨_,(cW (kN hp rfl (vP rfl T.t_ (cT (pv 0))) (uD rfl (lA (fF (i:=2) nd) (lA (fF (i:=3) nd) ux))) (cX (dO (iH (dF aD0 hr (c_ (pv 3) (c_ (pv 2) (c_ (eN fD rfl T.fq () (cT (pv 0))) (cT (pv 1))))))) (cX (dh (iQ rm hr (c_ (dH (pv 3) rfl) (cT (kg UP (hr.mono ()) (kQ xk (λ_ z=>z)) (c_ (pv 3) (c_ (pv 2) (cT (pv 1)))))))))) dX)))
  (cX (dh (iQ rm hr (c_ (dG T.xZ) (cT (dF Al hr (c_ (fQ jg (pv 1) cZ) (cT (dF DZ hr (cT (eN A1 rfl T.BL () (cT (pv 1)))))))))))))),?_⟩
 refine⟨a,_,rfl,hS,yd (K:=K) (a:=a) (xs:=as.map V.ref) (λi σ H'=>∃(v2 v3:Option V),σ=[some (.ref a),some (.int z),v2,v3]/\cR H H'/\(cs.zipIdx.find? λx=>fitsAt cs.length x.2 (oO x.1) z)=((cs.drop i).zipIdx i).find? λx=>fitsAt cs.length x.2 (oO x.1) z)
  ⟨none,none,rfl,cR.refl H,rfl⟩ (λi σ H' _ ⟨_,_,_,sm,_⟩=>sm.seq hS) ?_ ?_⟩
 .rintro i x σ H' T' hx ⟨v2,v3,rfl,sm,eS⟩ hT;rw[aR]at hx;obtain⟨b,hb,rfl⟩:=aG.mp hx;have sT:cR H' (upd H' T' (.tup [.int (i:Nat),.ref b])):=cR.upd hT;refine⟨T',_,rfl,e_.of cV,rfl,_,_,rfl,_,_,rfl,rfl,?_⟩;have sm:=sm.trans sT;generalize upd H' T' (.tup [.int (i:Nat),.ref b])=H' at*;obtain⟨c,hc,jP⟩:=A2.get (hC.same sm) hb;have gv:i<cs.length:=(aD.mp hc).1;have RC:=hok c (bx hc);rw[gh hc,List.zipIdx_cons,List.find?_cons]at eS;refine⟨a,_,rfl,.inl (sm.seq hS),b,c,H0,i,cs.length,z,by rw[az,hl];rfl,jP,RC,gv,(),⟨_,rfl,?_⟩⟩;cases hf:fitsAt cs.length i (oO c) z with
  |false=>
   rw[hf]at eS;exact dB ⟨_,_,rfl,sm,eS⟩
  |true=>
   rw[hf]at eS;unfold qD at k0 k1;rw[eS]at k0 k1;dsimp only at k0 k1;obtain⟨v,pl,dx,he,_⟩:=jP.fields;refine dZ ⟨b,CS,dx,_,_,rfl,he,TS.cl,TS.vJ,IY,b,c,H0,i,z,rfl,jP,RC,hz,λH2 s2 hn=>k0 H2 (sm.trans s2) (by rw[hn];rfl),λo ho p3 H3 s3 gB=>?_⟩;have k1:=k1 (c.colour,o) (by rw[ho];rfl);exact λx i_ hx eU dR=>⟨x,i_,_,_,rfl,cV,rfl,lV.new k1 (sm.trans s3) gB hx eU⟩
 .rintro σ H' ⟨v2,v3,rfl,sm,eS⟩;rw[az,hl,List.drop_length]at eS;unfold qD at k1;rw[eS]at k1;have k1:=k1 _ rfl;have zY:z.natAbs<10^90:=bh hz ();refine⟨_,_,rfl,rfl,z,rfl,z.natAbs,by rw[B9];rfl,zY,λpg H1 s1 HF=>?_⟩;have zM:=Aq zY;refine⟨_,pg,_,rfl,HF,(),λp3 H3 s3 gB=>?_⟩;exact λx i_ hx eU dR=>⟨x,i_,_,_,rfl,cV,rfl,lV.new (n:=0) k1 ((sm.trans s1).trans s3) gB hx eU⟩
end
def nq(cs:List eZ):List eZ:=if k6 cs=true then cs.dropLast else cs
def oF(cs:List eZ):List eZ:=if k6 cs=true then cs.drop (cs.length-1)else []
noncomputable def sR(cs:List eZ):Wbk.Value->Option (Nat×cS)
 | .empty=>some (0,[])
 | .num z=>qD (nq cs) z
 | .text b=>some (yQ (oF cs) b)
 | .truth t=>some (0,if t=true then Sv68.str "TRUE" else Sv68.str "FALSE")
 | .error k=>some (0,errorName k)
def Ss.num{CS:Addr}{H0 H:Hp}{as:List Addr}{cs:List eZ}(h:Ss C CS H0 H as cs):Ss C CS H0 H (wH as cs) (nq cs):=by
 unfold wH nq;split
 .rw[List.dropLast_eq_take,List.dropLast_eq_take,<-A2.length h];exact A2.BG h _
 .exact h
def Ss.txt{CS:Addr}{H0 H:Hp}{as:List Addr}{cs:List eZ}(h:Ss C CS H0 H as cs):Ss C CS H0 H (if k6 cs=true then as.drop (as.length-1)else []) (oF cs):=by
 unfold oF;split
 .rw[<-A2.length h];exact A2.Gi h _
 .exact .nil
def Ec{cs:List eZ}{c:eZ}(h:c∈nq cs):c∈cs:=by
 unfold nq at h;split at h
 .exact(List.dropLast_sublist cs).subset h
 .exact h
def Kw{cs:List eZ}{c:eZ}(h:c∈oF cs):c∈cs:=by
 unfold oF at h;split at h
 .exact List.mem_of_mem_drop h
 .cases h
section
abbrev QN:Stmt:=top 167
def aE7:dP ["sections","value"] ["sections","value"] (c9 QN):=dW
inductive OB(K:b6)(C:Cs)(CS CW CN:Addr)(vs:List V)(H:Hp)(Q:VK)(E:XK):Prop|m(a as cs H0 b l v)(_:vs=[.ref a,.ref b])(_:cU K H a (as.map V.ref))(_:as≠[])(_:as.length<=4)(_:Ss C CS H0 H as cs)(_:(∀c∈cs,oR c))(_:cU K H b (l.map V.int))(_:mO v l)(_:v.good=true)(_:(∀H',cR H H'->sR cs v=none->E (.ref CN) none H'))(_:∀o,sR cs v=some o->lV CW H Q o.1 o.2)
def aw2{f CS CW:Addr}(T:TX P w K mg)(UQ:Own P w K mg base cY 2 "number_sections" ["sections"] (OM K C CS))(Dl:Own P w K mg base cY 1 "text_sections" ["sections"] (F2 K C CS))(Wq:Own P w K mg base (fO P w CN) 8 "show_number" ["sections","number"] (OD K C CS CW CN))(XQ:Own P w K mg base cY 3 "show_text" ["sections","text"] (Ox K C CS CW))(l6:Own P w K mg base cY 1 "codes_of" ["word"] qb)(rm:jD P w K mg base cY 1 CW "Shown" ["self","colour","codes"] (AS CW))(F:dM K "show_value" "show_value" QN f fd):dJ P w K mg base (fO P w CN) 9 f fd ["sections","value"] (OB K C CS CW CN):=by
 refine F.oX aE7 λc8 A outer s H vs Q E hr h xk hp=>?_;obtain⟨a,as,cs,H0,b,l,v,rfl,hS,dR,hlen,hC,hok,hb,hv,hg,k0,k1⟩:=h;have hl:=hC.length;obtain⟨DA,Dz,Du⟩:=T.Js;refine⟨_,(cW (dO (dj dU (fM fW (pv 1) cZ (λ_ _=>rfl)) (dG T.ap7)) (cX (dh (iQ rm hr (c_ (dG T.xZ) (cT (fJ ir)))))) dX)
  (cW (dO (dj dU (fM fW (pv 1) cZ (λ_ _=>rfl)) (dG T.L7)) (cX (dh (kg Wq (hr.mono ()) (kQ xk (λ_ z=>z)) (c_ (dF UQ hr (cT (pv 0))) (cT (fM fW (pv 1) cZ (λ_ _=>rfl))))))) dX)
  (cW (dO (dj dU (fM fW (pv 1) cZ (λ_ _=>rfl)) (dG T.Oi)) (cX (dh (dF XQ hr (c_ (dF Dl hr (cT (pv 0))) (cT (fP fX (pv 1) (eY cZ) gQ)))))) dX)
  (cW (dO (dj dU (fM fW (pv 1) cZ (λ_ _=>rfl)) (dG T.ap3)) (cX (dh (iQ rm hr (c_ (dG T.xZ) (cT (dF l6 hr (cT (gD (dj dU (fM fW (pv 1) cZ (λ_ _=>rfl)) cZ) eH eH)))))))) dX)
  (cX (dh (iQ rm hr (c_ (dG T.xZ) (cT (dF l6 hr (cT (fM yw (i7 Dz) (dm iI (fM fW (pv 1) cZ (λ_ _=>rfl)) cZ) (λ_ _=>rfl))))))))))))),?_⟩
 obtain⟨t1,t2,t3,t4⟩:=ar4;cases hv with
 |empty=>
  have k1:=k1 _ rfl;refine⟨b,_,_,_,rfl,rfl,hb,eV (j:=0) (v:=.int 0) rfl,rfl,true,uW rfl,dZ ⟨aP _,λq hq=>?_⟩⟩;exact λx dx hx eU dR=>⟨x,dx,_,_,rfl,cV,rfl,lV.new (n:=0) k1 (cR.upd hq) cV hx eU⟩
 |num z=>
  have hz:z.natAbs<10^36:=by
   have e:(decide (-(1000000000000000000000000000000000000:Int)<z)&&decide (z<1000000000000000000000000000000000000))=true:=hg;rw[aE,aq,aq]at e;lia
  refine⟨b,_,_,_,rfl,rfl,hb,eV (j:=0) (v:=.int 1) rfl,rfl,false,jv (),dB ⟨b,_,_,_,rfl,rfl,hb,eV (j:=0) (v:=.int 1) rfl,rfl,true,uW rfl,dZ ⟨a,as,cs,H0,rfl,hS,dR,(),hC,λp H1 s1 jW=>⟨b,_,_,_,rfl,rfl,s1.seq hb,eV (j:=1) (v:=.int z) rfl,p,wH as cs,nq cs,H0,z,rfl,cU.of jW,?_,(hC.same s1).num,λc hc=>hok c (Ec hc),hz,λH2 s2 hn=>k0 H2 (s1.trans s2) hn,λo ho p2 H2 s2 fS=>k1 o ho p2 H2 (s1.trans s2) fS⟩⟩⟩⟩;unfold wH k6
  by_cases h4:cs.length=4
  .rw[ak h4,Bool.true_or,ah rfl,List.length_dropLast];lia
  .split
   .rw[List.length_dropLast];lia
   .lia
 |text bb=>
  have tO:bb.length<=4096:=by
   have e:(decide (bb.length<=4096)&&Wbk.utf8 bb)=true:=hg;rw[aE]at e;exact aj e.1
  have k1:=k1 _ rfl;refine⟨b,_,_,_,rfl,rfl,hb,eV (j:=0) (v:=.int 2) rfl,rfl,false,jv (),dB ⟨b,_,_,_,rfl,rfl,hb,eV (j:=0) (v:=.int 2) rfl,rfl,false,jv (),dB ⟨b,_,_,_,rfl,rfl,hb,eV (j:=0) (v:=.int 2) rfl,rfl,true,uW rfl,dZ ⟨a,as,cs,H0,rfl,hS,dR,(),hC,λp H1 s1 jW=>⟨2,rfl,b,_,rfl,s1.seq hb,?_⟩⟩⟩⟩⟩;rw[show fH (List.map V.int (2::(bb.length:Int)::bi bb)) (some 2) none=bv bb from q_ _ 2];intro q hq;have s2:=cR.upd (o:=.lst (bv bb)) hq;exact⟨p,_,oF cs,H0,q,bb,rfl,cU.of (s2 _ _ jW),(hC.same (s1.trans s2)).txt,λc hc=>hok c (Kw hc),cV,tO,λp2 H2 s3 fS=>k1 p2 H2 ((s1.trans s2).trans s3) fS⟩
 |truth z=>
  have k1:=k1 _ rfl;refine⟨b,_,_,_,rfl,rfl,hb,eV (j:=0) (v:=.int 3) rfl,rfl,false,jv (),dB ⟨b,_,_,_,rfl,rfl,hb,eV (j:=0) (v:=.int 3) rfl,rfl,false,jv (),dB ⟨b,_,_,_,rfl,rfl,hb,eV (j:=0) (v:=.int 3) rfl,rfl,false,jv (),dB ⟨b,_,_,_,rfl,rfl,hb,eV (j:=0) (v:=.int 3) rfl,rfl,true,uW rfl,dZ ⟨b,_,_,_,rfl,rfl,hb,eV (j:=1) (v:=.int z) rfl,rfl,_,rfl,dw (λy=>?_) (λy=>?_)⟩⟩⟩⟩⟩
  .have y1:z=1:=V.int.inj (aj y);have e:(if(z==1)=true then Sv68.str "TRUE" else Sv68.str "FALSE")=Sv68.str "TRUE":=by rw[y1];rfl
   rw[e]at k1;refine⟨_,rfl,t3,λq hq=>?_⟩;rw[t1];exact λx dx hx eU dR=>⟨x,dx,_,_,rfl,cV,rfl,lV.new (n:=0) k1 (cR.upd hq) cV hx eU⟩
  .have y1:¬z=1:=λe=>y (by rw[e];rfl);have e:(if(z==1)=true then Sv68.str "TRUE" else Sv68.str "FALSE")=Sv68.str "FALSE":=aa (by simpa using y1);rw[e]at k1;refine⟨_,rfl,t4,λq hq=>?_⟩;rw[t2];exact λx dx hx eU dR=>⟨x,dx,_,_,rfl,cV,rfl,lV.new (n:=0) k1 (cR.upd hq) cV hx eU⟩
 |error e=>
  have k1:=k1 _ rfl;have he:1<=e/\e<=8:=by
   have h:(decide (1<=e)&&decide (e<=8))=true:=hg;rw[aE,aq,aq]at h;exact h
  have hj:e-1<8:=();obtain⟨n1,n2⟩:=aB9 ⟨e-1,hj⟩;rw[show e-1+1=e by lia]at n1;refine⟨b,_,_,_,rfl,rfl,hb,eV (j:=0) (v:=.int 4) rfl,rfl,false,jv (),dB ⟨b,_,_,_,rfl,rfl,hb,eV (j:=0) (v:=.int 4) rfl,rfl,false,jv (),dB ⟨b,_,_,_,rfl,rfl,hb,eV (j:=0) (v:=.int 4) rfl,rfl,false,jv (),dB ⟨b,_,_,_,rfl,rfl,hb,eV (j:=0) (v:=.int 4) rfl,rfl,false,jv (),dB ⟨b,_,_,_,rfl,rfl,hb,eV (j:=1) (v:=.int (e:Nat)) rfl,_,_,rfl,rfl,DA,_,_,.str (De.getD (e-1) ""),rfl,rfl,Du _,(by rw[show(e:Int)-1=((e-1:Nat):Int) by lia];exact eV (j:=e-1) (getD_at (l:=De) hj)),_,rfl,n2,λq hq=>?_⟩⟩⟩⟩⟩;rw[n1];exact λx dx hx eU dR=>⟨x,dx,_,_,rfl,cV,rfl,lV.new (n:=0) k1 (cR.upd hq) cV hx eU⟩
end
theorem Li{T:Nat}{noon:Bool}(hT:T/86400000<=2958464):∀(ps:List Pc) (pre:cS),(∀p∈ps,Named p)->(∀p∈ps,iM p)->(SH.jL T noon pre (lp ps)).length<=300*ps.length
 |[],_,_,_=>aI _
 |p::ps,pre,hN,hF=>by
  have S_:∀q∈ps,Named q:=λq hq=>hN q (aA _ hq);rw[Lw _ _ _ (hN p aB) S_,aC,aK];have h1:=KL (T:=T) (noon:=noon) (pre:=pre) (post:=ps.filterMap gF) (hN p aB) (hF p aB) hT;have h2:=Li (noon:=noon) hT ps (pre++(gF p).toList) S_ λq hq=>hF q (aA _ hq);lia
def Z2{c:eZ}{i:Nat}{z:Int}{o:cS}(hok:oR c)(hl:c.ps.length<=300)(hz:z.natAbs<10^36)(h:kT c i z=some o):o.length<=1300000:=by
 unfold kT at h;have hN:∀p∈c.ps,Named p:=λp hp=>(hok.good p hp).1;have zg:∀(m:Bool) (b:cS),(kU m b).length<=1+b.length:=λm b=>by
  unfold kU;rw[aC];cases m
  .exact Nat.add_le_add_right (by decide:0<=1) _
  .exact aI _
 split at h
 .unfold tu at h;split at h
  .cases h
  .split at h
   .cases h
   .rename_i h1 h2;rw[<-aH h];have:=Li (T:=sU (c.ps.filterMap kC) z.toNat) (noon:=decide (gZ∈c.ps.map Pc.name)) () c.ps [] hN hok.nQ;lia
 .split at h
  .rename_i h1;have GC:rK (lp c.ps):=Gd (by rw[hok.kind,h1]);have:=LS hok.good hok.nQ (FH hok.good GC) hl hz;rw[<-aH h];have:=zg (kD c i z&& !(kF c.ps z.natAbs).2) (kF c.ps z.natAbs).1;lia
  .rw[<-aH h];have h2:=zg (kD c i z) (jj fK (generalOf z.natAbs) c.ps);have h3:=AU (nm:=fK) (Aq (bh hz ())) hok.nQ;lia
def ZV{cs:List eZ}{v:Wbk.Value}{o:Nat×cS}(hok:∀c∈cs,oR c)(hl:∀c∈cs,c.ps.length<=300)(hg:v.good=true)(h:sR cs v=some o):o.2.length<=1300000:=by
 cases v with
 |empty=>rw[<-aH h];exact aP _
 |num z=>
  have hz:z.natAbs<10^36:=by
   have e:(decide (-(1000000000000000000000000000000000000:Int)<z)&&decide (z<1000000000000000000000000000000000000))=true:=hg;rw[aE,aq,aq]at e;lia
  have h:qD (nq cs) z=some o:=h;unfold qD at h;split at h
  .rw[<-aH h];have:=Aq (bh hz ():z.natAbs<10^90);show(kU _ _).length<=_;unfold kU;rw[aC];have:(if decide (z<0)=true then [45]else []:cS).length<=1:=by split<;>decide
   lia
  .rename_i x hx;obtain⟨b,hb,e⟩:=aG.mp h;have hm:=List.mem_of_find?_eq_some hx;have hm:x.1∈nq cs:=by
    obtain⟨y,j⟩:=x;exact bx (List.mem_zipIdx_iff_getElem?.mp hm)
   have hc:=Ec hm;rw[<-e];exact Z2 (hok _ hc) (hl _ hc) hz hb
 |text b=>
  have tO:b.length<=4096:=by
   have e:(decide (b.length<=4096)&&Wbk.utf8 b)=true:=hg;rw[aE]at e;exact aj e.1
  rw[<-aH h];show(yQ (oF cs) b).2.length<=_;cases ht:oF cs with
  |nil=>exact aV tO ()
  |cons c r=>
   have hc:=Kw (show c∈oF cs by rw[ht];exact aB);show(jj gG b c.ps).length<=_;have:=AU (nm:=gG) tO (hok c hc).nQ;have:=hl c hc;lia
 |truth t=>
  rw[<-aH h];cases t<;>decide
 |error k=>
  rw[<-aH h];have he:1<=k/\k<=8:=by
   have h:(decide (1<=k)&&decide (k<=8))=true:=hg;rw[aE,aq,aq]at h;exact h
  have:∀j:Fin 9,(errorName j.val).length<=1300000:=();exact this ⟨k,()⟩
def Ss.len{CS:Addr}{H0 H:Hp}{as:List Addr}{cs:List eZ}(h:Ss C CS H0 H as cs):∀c∈cs,c.ps.length<=300:=by
 induction h with
 |nil=>intro c hc;cases hc
 |@cons a c as cs r t ih=>
  intro d hd;rcases aN.mp hd with rfl|hd
  .obtain⟨v,pl,_,_,_,jw,_,pP,qP⟩:=r;rw[<-A2.length qP];exact pP
  .exact ih d hd
def NS{b:cS}{cs:List eZ}(h:iy b=some cs):cs≠[]:=by
 unfold iy at h;split at h
 .cases h
 .obtain⟨ls,mT,h⟩:=aO.mp h;obtain⟨c',ia,h⟩:=aO.mp h;split at h
  .rw[aH h]at ia;have h1:=NV mT;have h2:=A7 ia;intro e;rw[e]at h2;exact h1 (bG h2.symm)
  .cases h
noncomputable def BP(pb:cS)(v:Wbk.Value):List Int:=match iy pb with
 |none=>[-3]
 |some cs=>if v.good=false then [-1]else match sR cs v with
  |none=>[-4]
  |some o=>(o.1:Int)::(o.2.length:Int)::bi o.2
section
variable {P:Program}{w:World}{K:b6}{mg:Str->Option Value}{base:Heap}{C1 C2 C3:Addr}{B newId lE:String}{bm m2 m3:List Value}
abbrev yV:Stmt:=top 178
def Pb:dP ["picture","value","sections","shown"] ["picture","value"] (c9 yV):=dW
inductive F3(K:b6)(vs:List V)(H:Hp)(Q:VK)(z3:XK):Prop|m(a pb b l v)(_:vs=[.ref a,.ref b])(_:cU K H a (bv pb))(_:pb.length<=70000)(_:cU K H b (l.map V.int))(_:mO v l)(_:∀(p:Addr) (H':Hp),H' p=some (.lst ((BP pb v).map V.int))->Q (.ref p) H')
def aw1{f CS CW:Addr}(T:TX P w K mg)(TW:EE K CW)(E1:OwnCls "NoPicture" C1 bm newId mg base)(E2:OwnCls "WrongArgument" C2 bm newId mg base)(E3:OwnCls "CannotShow" C3 bm newId mg base)(FB:ExcBaseFacts B newId lE bm)(M2:wF base C2 m2)(M3:wF base C3 m3)(Ac:(Value.ref C2::m2).contains (.ref C1)=false)(Ab:(Value.ref C3::m3).contains (.ref C1)=false)(Aa:(Value.ref C3::m3).contains (.ref C2)=false)
  (Vz:Own P w K mg base (fO P w C1) 8 "read_sections" ["picture"] (Qz K C CS C1))(V0:Own P w K mg base (fO P w C2) 5 "demand_value" ["value"] (O0 K C2))(W4:Own P w K mg base (fO P w C3) 9 "show_value" ["sections","value"] (OB K C CS CW C3))(F:dM K "show" "show" yV f fd):dJ P w K mg base cY 10 f fd ["picture","value"] (F3 K):=by
 refine F.oK Pb λc8 A outer s H vs Q E hr h=>?_;obtain⟨a,pb,b,l,v,rfl,hS,hlen,hb,hv,k⟩:=h;have nd:=Pb.nd;unfold BP at k;obtain⟨t1,h1,q1⟩:∃t1,gb (gJ cY P w K mg base ["picture","value","sections","shown"] "show" (c9 yV) f c8 A outer s H E).jV ((gH yV).drop 1) t1/\
   ∀(v2:Option V) (e:Addr) (n:Nat) (o:cS) (H1:Hp),RS CW H1 e n o->o.length<=1300000->(∀(p:Addr) (H':Hp),H' p=some (.lst (((n:Int)::(o.length:Int)::bi o).map V.int))->Q (.ref p) H')->t1 {nx:=λ_ H'=>Q .dI H',rt:=Q} [some (.ref a),some (.ref b),v2,some (.ref e)] H1:=by
  refine⟨_,(cX (dh (dm ni (fJ (c_ (dH (pv 3) rfl) (cT (eN fD rfl T.fq () (cT (dH (pv 3) rfl)))))) (dH (pv 3) rfl)))),?_⟩;intro v2 e n o H1 hE ho k;obtain⟨q,⟨dx,he⟩,hq⟩:=hE;refine⟨e,CW,dx,_,_,rfl,he,TW.cl,TW.vJ,Vm,e,CW,dx,_,_,rfl,he,TW.cl,TW.sr,Jh,q,_,rfl,.inl (cU.of hq),(by show 2<=2^24;decide),λp hp=>?_⟩;rw[eB];have s1:=cR.upd (o:=.lst [V.int (n:Int),V.int (o.length:Int)]) hp;exact⟨e,CW,dx,_,_,rfl,s1 _ _ he,TW.cl,TW.sr,Jh,p,q,_,_,rfl,rfl,cV,s1 _ _ hq,(by rw[eB];show 2+_<=2^24;lia),λp2 fS=>k p2 _ cV⟩
 refine⟨_,cW (ai3 (C1:=C1) (C2:=C2) (C3:=C3) (λH'=>iy pb=none) (λH'=>∃cs,iy pb=some cs/\v.good=false) (λH'=>∃cs,iy pb=some cs/\v.good=true/\sR cs v=none) E1 E2 E3 FB.hasBase FB.hasBase FB.hasBase M2 M3 Ac Ab Aa rfl rfl (λ_=>rfl) rfl rfl rfl rfl rfl
  (λE pn x1 x2 x3 hp=>(cW (dN (i:=2) nd (kg Vz (hr.mono ()) (kQ (E:=λ_ _ H'=>iy pb=none) x1 (λ_ z=>z)) (cT (pv 0))))
   (cW (iO (kg V0 (hr.mono ()) (kQ (E:=λ_ _ H'=>∃cs,iy pb=some cs/\v.good=false) x2 (λ_ z=>z)) (cT (pv 1))))
   (cX (dN (i:=3) nd (kg W4 (hr.mono ()) (kQ (E:=λ_ _ H'=>∃cs,iy pb=some cs/\v.good=true/\sR cs v=none) x3 (λ_ z=>z)) (c_ (pv 2) (cT (pv 1)))))))))
  (λe=>(cX (dh (fJ (cT (dG T.WY)))))) (λe=>(cX (dh (fJ (cT (dG T.U6)))))) (λe=>(cX (dh (fJ (cT (dG T.Wl))))))) h1,?_⟩
 refine⟨⟨a,pb,rfl,hS,hlen,λH' sm hn=>hn,λp as cs H1 s1 h_ hp tQ=>?_⟩,λσ' H' hE=>?_,λσ' H' hE=>?_,λσ' H' hE=>?_⟩
 .refine⟨b,l,v,rfl,s1.seq hb,hv,λH2 s2 hg=>⟨cs,h_,hg⟩,λH2 s2 hg=>?_⟩;have gV:=s1.trans s2;have hok:=Qa h_;have dR:=NS h_;have h4:=ah9 h_;have zL:=tQ.length;have fh:=tQ.len;refine⟨p,as,cs,H,b,l,v,rfl,cU.of (s2 _ _ hp),λe=>dR (bG (by rw[<-zL,e];rfl)),(),tQ.same s2,hok,gV.seq hb,hv,hg,λH3 s3 hn=>⟨cs,h_,hg,hn⟩,λo ho e H3 s3 hE=>?_⟩;rw[h_]at k;dsimp only at k;rw[aa (by rw[hg];decide),ho]at k;exact q1 _ e o.1 o.2 H3 hE (ZV hok fh hg ho) k
 .rw[hE]at k;exact⟨(),λp hp=>k p _ cV⟩
 .obtain⟨cs,h_,hg⟩:=hE;rw[h_]at k;dsimp only at k;rw[ah hg]at k;exact⟨(),λp hp=>k p _ cV⟩
 .obtain⟨cs,h_,hg,hn⟩:=hE;rw[h_]at k;dsimp only at k;rw[aa (by rw[hg];decide),hn]at k;exact⟨(),λp hp=>k p _ cV⟩
end
def ZG{p l:List Int}(h:PySv68.show__asked p l=true):∃v,jZ p/\p.length<=65535/\mO v l:=by
 unfold PySv68.show__asked Sv68Neutral.asked Sv68Neutral.asked1 at h;change ((_&&_)&&_)=true at h;rw[aE,aE]at h;obtain⟨⟨h1,h2⟩,h3⟩:=h;have hb:∀{q:List Int},(q.all λ(z:Int)=>Sv68Neutral.natural z 8)=true->jZ q:=λ{q} hq n hn=>by
  have:=bg.mp hq n hn;unfold Sv68Neutral.natural at this;rw[aE,aq,aq]at this;have e:(2:Int)^8=256:=();lia
 refine(λhx:∃v,mO v l=>?_) ?_
 .obtain⟨v,hv⟩:=hx;exact⟨v,hb h1,aj h2,hv⟩
 split at h3
 .exact⟨_,.empty⟩
 .exact⟨_,.num _⟩
 .rename_i n b;rw[aE]at h3;unfold Sv68Neutral.bytes at h3;rw[aE]at h3;have e1:n=(b.length:Int):=by simpa using h3.1
  have e2:=BE (hb h3.2.1);have e3:(oct b).length=b.length:=by
   rw[<-p_,e2]
  rw[e1,<-e3,<-e2,rq];exact⟨_,.text (oct b)⟩
 .exact⟨_,.truth _⟩
 .rename_i k;unfold Sv68Neutral.natural at h3;rw[aE,aq,aq]at h3;obtain⟨k,rfl⟩:=Int.eq_ofNat_of_zero_le h3.1;exact⟨_,.error k⟩
 .cases h3
def au2{b:cS}{ps:List Pc}(hN:∀p∈ps,Named p):jj gG b ps=(lp ps).flatMap λp=>match p with
  | .text t=>t
  | .itself=>b
  |_=>[]:=by
 induction ps with
 |nil=>rfl
 |cons p ps ih=>
  have ih:=ih λq hq=>hN q (aA _ hq);have hn:=hN p aB;rw[uu,List.flatMap_append,<-ih];show uE gG b p++jj gG b ps=_;congr 1;cases p with
  |sign nm c=>
   rcases hn with e|e|e|e|e<;>subst e
   .rw[qa (by dsimp only[Pc.name];decide+kernel),aa (by dsimp only[Pc.name];decide+kernel)];rfl
   .rw[qa (by dsimp only[Pc.name];decide+kernel),aa (by dsimp only[Pc.name];decide+kernel)];rfl
   .rw[qa (by dsimp only[Pc.name];decide+kernel),aa (by dsimp only[Pc.name];decide+kernel)];rfl
   .rw[qa (by dsimp only[Pc.name];decide+kernel),aa (by dsimp only[Pc.name];decide+kernel)];rfl
   .rw[qa (by dsimp only[Pc.name];decide+kernel),ah (show(Pc.sign gG c).name=gG from rfl)];show b=b++[];rw[aU]
  |word nm n=>
   rcases hn with e|e<;>(subst e;rw[qa (by dsimp only[Pc.name];decide+kernel),aa (by dsimp only[Pc.name];decide+kernel)];rfl)
  |text t=>
   show t=t++[];rw[aU]
  |exponent c=>rfl
  |part l n d=>rfl
  |passed l n d=>rfl
  |colour k=>rfl
  |condition z x=>rfl
def Mw{g:cS}{ps:List Pc}(hN:∀p∈ps,Named p):jj fK g ps=(lp ps).flatMap λp=>match p with
  | .text t=>t
  | .general=>g
  |_=>[]:=by
 induction ps with
 |nil=>rfl
 |cons p ps ih=>
  have ih:=ih λq hq=>hN q (aA _ hq);have hn:=hN p aB;rw[uu,List.flatMap_append,<-ih];show uE fK g p++jj fK g ps=_;congr 1;cases p with
  |sign nm c=>
   rcases hn with e|e|e|e|e<;>(subst e;rw[qa (by dsimp only[Pc.name];decide+kernel),aa (by dsimp only[Pc.name];decide+kernel)];rfl)
  |word nm n=>
   rcases hn with e|e<;>subst e
   .rw[qa (by dsimp only[Pc.name];decide+kernel),ah (show(Pc.word fK n).name=fK from rfl)];show g=g++[];rw[aU]
   .rw[qa (by dsimp only[Pc.name];decide+kernel),aa (by dsimp only[Pc.name];decide+kernel)];rfl
  |text t=>
   show t=t++[];rw[aU]
  |exponent c=>rfl
  |part l n d=>rfl
  |passed l n d=>rfl
  |colour k=>rfl
  |condition z x=>rfl
def aH2{l:List Sv68.Piece}(h:Sv68.kindOf l=some 0):(l.all isText)=true:=by
 unfold Sv68.kindOf at h;split at h
 .assumption
 split at h
 .cases h
 split at h
 .split at h<;>cases h
 split at h
 .split at h<;>cases h
 split at h
 .dsimp only at h;split at h<;>cases h
 .cases h
def aH1{l:List Sv68.Piece}(h:Sv68.kindOf l=some 4):(l.all λp=>isText p||p== .general)=true:=by
 unfold Sv68.kindOf at h;split at h
 .cases h
 split at h
 .cases h
 split at h
 .assumption
 split at h
 .split at h<;>cases h
 split at h
 .dsimp only at h;split at h<;>cases h
 .cases h
def kind_le{l:List Sv68.Piece}{k:Nat}(h:Sv68.kindOf l=some k):k<=4:=by
 unfold Sv68.kindOf at h;split at h
 .have:=aH h;lia
 split at h
 .have:=aH h;lia
 split at h
 .split at h
  .have:=aH h;lia
  .cases h
 split at h
 .split at h
  .have:=aH h;lia
  .cases h
 split at h
 .dsimp only at h;split at h
  .have:=aH h;lia
  .cases h
 .cases h
def J_{f g:Sv68.Piece->cS}{l:List Sv68.Piece}(h:∀p∈l,f p=g p):l.flatMap f=l.flatMap g:=by
 induction l with
 |nil=>rfl
 |cons p l ih=>rw[List.flatMap_cons,List.flatMap_cons,h p aB,ih λq hq=>h q (aA _ hq)]
def sec_eq{c:eZ}{s:Section}(hs:SR c s)(hok:oR c)(i:Nat){z:Int}(hz:z.natAbs<10^36)(h3:c.kind≠3):(let af1:=decide (z<0)&& !(i==1&&s.condition.isNone)
  let signed (x:cS×Bool):cS:=(if af1=true/\x.2=true then [45]else [])++x.1
  match Sv68.kindOf s.pieces with
  |some 0=>some (s.colour,signed (flat s.pieces,true))
  |some 4=>some (s.colour,signed (s.pieces.flatMap λp=>(match p with
   | .text b=>b
   |_=>generalOf z.natAbs),true))
  |some 2=>(Sv68.dayOut s.pieces z).map λb=>(s.colour,b)
  |_=>some (s.colour,signed (Sv68.digits s.pieces z.natAbs)))=(kT c i z).map λb=>(c.colour,b):=by
 have hN:∀p∈c.ps,Named p:=λp hp=>(hok.good p hp).1;have hm:(decide (z<0)&& !(i==1&&s.condition.isNone))=kD c i z:=by
  unfold kD;rw[hs.cond];congr 1;cases c.cond with
  |none=>by_cases e:i=1<;>simp[e]
  |some x=>by_cases e:i=1<;>simp[e]
 have hk:=kind_le hs.kind;dsimp only;rw[hs.kind,hm,hs.colour,hs.pieces];have xm:=hok.kind;rcases(show c.kind=0\/c.kind=1\/c.kind=2\/c.kind=4 by lia)with e|e|e|e
 .have so:kT c i z=some (kU (kD c i z) (jj fK (generalOf z.natAbs) c.ps)):=by
   unfold kT;rw[e,aa (),aa ()]
  rw[so];rw[e]at xm ⊢;unfold kU flat;rw[Mw hN,Option.map_some];have:=aH2 xm;rw[J_ (g:=λp=>match p with
   | .text t=>t
   | .general=>generalOf z.natAbs
   |_=>[]) λq hq=>by
    have:=bg.mp this q hq;cases q<;>first |rfl|cases this]
  cases kD c i z<;>rfl
 .have so:kT c i z=some (kU (kD c i z&& !(kF c.ps z.natAbs).2) (kF c.ps z.natAbs).1):=by
   unfold kT;rw[e,aa (),ah rfl]
  rw[so];rw[e]at xm ⊢;rw[Zo hok.good hok.nQ (Gd xm) (bh hz ()),Option.map_some];unfold kU;cases kD c i z<;>cases(kF c.ps z.natAbs).2<;>rfl
 .have so:kT c i z=tu c.ps z:=by
   unfold kT;rw[e,ah rfl]
  rw[so,e,as5 hN hok.nQ];rfl
 .have so:kT c i z=some (kU (kD c i z) (jj fK (generalOf z.natAbs) c.ps)):=by
   unfold kT;rw[e,aa (),aa ()]
  rw[so];rw[e]at xm ⊢;unfold kU;rw[Mw hN,Option.map_some];have:=aH1 xm;rw[J_ (g:=λp=>match p with
   | .text t=>t
   | .general=>generalOf z.natAbs
   |_=>[]) λq hq=>by
    have:=bg.mp this q hq;cases q<;>first |rfl|cases this]
  cases kD c i z<;>rfl
def ac5{n:Nat}{z:Int}{cs:List eZ}{l:List Section}(h:A2 SR cs l):∀k:Nat,(((cs.zipIdx k).find? λx=>fitsAt n x.2 (oO x.1) z)=none/\((l.zipIdx k).find? λx=>fitsAt n x.2 x.1.condition z)=none)\/∃c s i,((cs.zipIdx k).find? λx=>fitsAt n x.2 (oO x.1) z)=some (c,i)/\((l.zipIdx k).find? λx=>fitsAt n x.2 x.1.condition z)=some (s,i)/\SR c s/\c∈cs:=by
 induction h with
 |nil=>exact λk=>.inl ⟨rfl,rfl⟩
 |@cons c s cs l r t ih=>
  intro k;rw[List.zipIdx_cons,List.zipIdx_cons,List.find?_cons,List.find?_cons];have e:fitsAt n k s.condition z=fitsAt n k (oO c) z:=by rw[r.cond]
  dsimp only;rw[e];cases hf:fitsAt n k (oO c) z with
  |true=>exact .inr ⟨c,s,k,rfl,rfl,r,aB⟩
  |false=>
   rcases ih (k+1)with h|⟨c',s',i,h1,h2,h3,h4⟩
   .exact .inl h
   .exact .inr ⟨c',s',i,h1,h2,h3,aA _ h4⟩
def ak9{cs:List eZ}{l:List Section}(h:A2 SR cs l)(hok:∀c∈cs,oR c)(h3:∀c∈cs,c.kind≠3){z:Int}(hz:z.natAbs<10^36):numberOut l z=qD cs z:=by
 unfold numberOut qD chosen;rw[<-A2.length h];rcases ac5 (n:=cs.length) (z:=z) h 0 with⟨h1,h2⟩|⟨c,s,i,h1,h2,hs,hc⟩
 .rw[h1,h2];dsimp only[Option.map_none];unfold kU
  by_cases e:z<0
  .rw[ah e,ak e];rfl
  .rw[aa e,ao e];rfl
 .rw[h1,h2];exact sec_eq hs (hok c hc) i hz (h3 c hc)
def am5{cs:List eZ}{l:Picture}(h:A2 SR cs l)(dR:cs≠[]):∃c s,cs.getLast? =some c/\l.getLast? =some s/\SR c s/\((l.length=4\/(l.getLast?.bind λs=>Sv68.kindOf s.pieces)=some 3)↔k6 cs=true):=by
 have hl:=h.length;have hp:0<cs.length:=List.length_pos_iff.mpr dR;obtain⟨c,hc⟩:∃c,cs[cs.length-1]? =some c:=⟨_,br ()⟩;obtain⟨s,hs,r⟩:=A2.get h hc;have e1:cs.getLast? =some c:=by rw[List.getLast?_eq_getElem?];exact hc
 have e2:l.getLast? =some s:=by rw[List.getLast?_eq_getElem?,<-hl];exact hs
 refine⟨c,s,e1,e2,r,?_⟩;unfold k6;rw[e1,e2,<-hl,Option.bind_some,r.kind,Bool.or_eq_true,aq,aq];rfl
def shown_eq{cs:List eZ}{l:Picture}{v:Wbk.Value}(h:A2 SR cs l)(dR:cs≠[])(hok:∀c∈cs,oR c)(ht:pC cs=true)(hg:v.good=true):Sv68.shown l v=sR cs v:=by
 obtain⟨c,s,e1,e2,r,hT⟩:=am5 h dR;cases v with
 |empty=>rfl
 |truth t=>rfl
 |error k=>rfl
 |text b=>
  show(match ofTexts l with
   |some s=>some (s.colour,s.pieces.flatMap λp=>match p with
    | .text t=>t
    | .itself=>b
    |_=>[])
   |none=>some (0,b))=some (yQ (oF cs) b)
  unfold ofTexts oF
  by_cases hc:k6 cs=true
  .rw[ah (hT.mpr hc),ah hc,e2];rcases bW cs with rfl|⟨q,d,rfl⟩
   .exact(dR rfl).elim
   .rw[bX]at*;rw[List.getLast?_concat]at e1;obtain rfl:=aH e1;rw[show(q++[d]).length-1=q.length by rw[aC];rfl,List.drop_left];show some (s.colour,_)=some (d.colour,jj gG b d.ps);rw[au2 λp hp=>((hok d (bD _ aB)).good p hp).1,r.colour,r.pieces]
  .rw[aa (λz=>hc (hT.mp z)),aa hc];rfl
 |num z=>
  have hz:z.natAbs<10^36:=by
   have e:(decide (-(1000000000000000000000000000000000000:Int)<z)&&decide (z<1000000000000000000000000000000000000))=true:=hg;rw[aE,aq,aq]at e;omega
  have ho:Sv68.shown l (.num z)=numberOut (ofNumbers l) z:=by
   show(match ofNumbers l with
    |[]=>some (0,(if z<0 then [45]else [])++generalOf z.natAbs)
    |s=>numberOut s z)=_
   cases ofNumbers l<;>rfl
  rw[ho];show _=qD (nq cs) z;have qN:∀c∈cs.dropLast,c.kind≠3:=by
   unfold pC at ht;rw[aE,aE]at ht;have h2:=ht.2.1;intro c hc e;rw[Bool.not_eq_true',Bool.eq_false_iff]at h2;exact h2 (List.any_eq_true.mpr ⟨c,hc,ak e⟩)
  have hA:A2 SR (nq cs) (ofNumbers l):=by
   unfold nq ofNumbers
   by_cases hc:k6 cs=true
   .rw[ah (hT.mpr hc),ah hc,List.dropLast_eq_take,List.dropLast_eq_take,<-h.length];exact A2.BG h _
   .rw[aa (λz=>hc (hT.mp z)),aa hc];exact h
  refine ak9 hA (λc hc=>hok c (Ec hc)) (λd hd=>?_) hz;unfold nq at hd;split at hd
  .exact qN d hd
  .rename_i hc;rcases bW cs with rfl|⟨q,x,rfl⟩
   .cases hd
   .rw[bX]at*;rw[List.getLast?_concat]at e1;rcases List.mem_append.mp hd with hd|hd
    .exact qN d (by rw[List.dropLast_concat];exact hd)
    .rw[List.mem_singleton.mp hd];intro e;apply hc;unfold k6;rw[List.getLast?_concat,Bool.or_eq_true];exact .inr (ak (by rw[<-e];rfl))
def at8{b:cS}{cs:List eZ}(h:iy b=some cs):pC cs=true:=by
 unfold iy at h;split at h
 .cases h
 .obtain⟨ls,_,h⟩:=aO.mp h;obtain⟨c',_,h⟩:=aO.mp h;split at h
  .rw[<-aH h];assumption
  .cases h
def ar1{v:Wbk.Value}{l:List Int}(hv:mO v l):Sv68Neutral.valueOf l=some v:=by
 cases hv with
 |empty=>rfl
 |num z=>rfl
 |text b=>
  show(if(b.length:Int)=((bi b).length:Int)then some (Wbk.Value.text (oct (bi b)))else none)=_;rw[p_,ah rfl,rq]
 |truth z=>rfl
 |error k=>rfl
def as4{pb:cS}{v:Wbk.Value}{l:List Int}(hv:mO v l):BP pb v=PySv68.show_ (bi pb) l:=by
 have e:PySv68.show_ (bi pb) l=(match(Sv68Neutral.valueOf l).map λx=>Call.show_ (oct (bi pb)) x with
  |some x=>(does x).v::(does x).l
  |none=>[]):=rfl
 rw[e,ar1 hv,Option.map_some,rq];dsimp only;unfold does BP;dsimp only;obtain⟨r1,r2⟩:=NR pb;cases h:iy pb with
 |none=>
  rw[r2 h];rfl
 |some cs=>
  obtain⟨l',hl,hA⟩:=r1 cs h;rw[hl];dsimp only;cases hg:v.good with
  |false=>rfl
  |true=>
   rw[shown_eq hA (NS h) (Qa h) (at8 h) hg];cases sR cs v<;>rfl
abbrev DI(K:b6)(mg:Str->Option Value)(x:Str)(i:Nat)(ps:List Str):Prop:=yO K mg x (top i) ps
structure DD(K:b6)(mg:Str->Option Value):Prop where
 an9:DI K mg "small" 38 ["code"]
 Yr:DI K mg "codes_of" 39 ["word"]
 Wf:DI K mg "begins_with" 40 ["codes","at","word"]
 Vr:DI K mg "end_of_digits" 41 ["codes","begin"]
 WW:DI K mg "are_digits" 42 ["codes","least","most"]
 ae1:DI K mg "parted" 43 ["codes","sign"]
 Xy:DI K mg "number_of" 44 ["digits"]
 U5:DI K mg "character_size" 51 ["first"]
 VT:DI K mg "is_character" 52 ["codes"]
 VR:DI K mg "is_well_made" 53 ["codes"]
 ao0:DI K mg "power" 71 ["base","exponent"]
 Xp:rX K mg "Condition" "Condition.__init__" (inClass (top 77) 0) ["self","comparison","limit"] ["comparison","limit"]
 am3:rX K mg "Piece" "Piece.__init__" (inClass (top 90) 0) ["self","name","value","end"] ["name","value","end"]
 aA9:rX K mg "Part" "Part.__init__" (inClass (top 91) 0) ["self","letter","size","decimals"] ["letter","size","decimals"]
 Ze:rX K mg "Section" "Section.__init__" (inClass (top 113) 0) ["self","colour","kind","condition","pieces"] ["colour","kind","condition","pieces"]
 WS:DI K mg "read_limit" 79 ["comparison","codes"]
 UY:DI K mg "read_condition" 78 ["inner"]
 Vu:DI K mg "closing_place" 93 ["picture","at","closing"]
 T6:DI K mg "read_character_behind" 94 ["picture","at"]
 U4:DI K mg "count_decimals" 97 ["picture","at"]
 Xz:DI K mg "make_part" 96 ["picture","name","letter","size","end"]
 Yp:DI K mg "read_row" 95 ["picture","at"]
 Vt:DI K mg "colour_number" 99 ["inner"]
 UZ:DI K mg "is_passed_time" 100 ["inner"]
 VN:DI K mg "read_bracket" 98 ["picture","at"]
 WR:DI K mg "read_piece" 92 ["picture","at"]
 We:DI K mg "part_pieces" 115 ["picture"]
 WM:DI K mg "whole_part" 119 ["names"]
 UL:DI K mg "is_right_number" 120 ["names"]
 Us:DI K mg "may_have_exponent" 121 ["names"]
 Uu:DI K mg "is_right_exponent" 122 ["pieces"]
 UA:DI K mg "are_right_digits" 118 ["pieces"]
 XD:DI K mg "find_kind" 117 ["pieces"]
 VQ:DI K mg "make_section" 116 ["pieces"]
 Uk:DI K mg "are_right_together" 123 ["sections"]
 Vp:DI K mg "read_sections" 114 ["picture"]
 VS:DI K mg "is_leap_year" 8 ["year"]
 VP:DI K mg "month_length" 9 ["year","month"]
 Ut:DI K mg "leap_years_before" 10 ["year"]
 XC:DI K mg "first_day" 11 ["year"]
 aB0:rX K mg "Date" "Date.__init__" (inClass (top 7) 0) ["self","year","month","day"] ["year","month","day"]
 Zt:DI K mg "date_of" 12 ["number"]
 WN:DI K mg "weekday_of" 13 ["number"]
 XE:DI K mg "digits_of" 45 ["number","least"]
 UJ:DI K mg "round_halves_up" 72 ["number","divisor"]
 Xw:DI K mg "show_noon" 157 ["size","time"]
 Vo:DI K mg "show_decimals" 159 ["part","time"]
 Wb:DI K mg "show_passed" 158 ["part","time"]
 Xr:DI K mg "show_year" 161 ["year","size"]
 Xx:DI K mg "show_name" 162 ["name","size"]
 WU:DI K mg "is_minutes" 156 ["pieces","at"]
 WQ:DI K mg "round_time" 155 ["pieces","number"]
 Xv:DI K mg "show_part" 160 ["part","time","has_noon"]
 Xs:DI K mg "show_time" 154 ["pieces","number"]
 WT:DI K mg "last_place" 131 ["names"]
 Ua:DI K mg "count_commas_behind" 130 ["names"]
 Uz:DI K mg "is_comma_between" 129 ["names"]
 WV:DI K mg "empty_cell" 135 ["place"]
 Zr:DI K mg "grouped" 137 ["cells"]
 Vs:DI K mg "decimal_cells" 138 ["places","decimals"]
 Wa:DI K mg "whole_cells" 136 ["layout","whole"]
 VO:DI K mg "put_together" 134 ["pieces","cells"]
 ad5:rX K mg "Digits" "Digits.__init__" (inClass (top 128) 0) ["self","codes","is_zero"] ["codes","is_zero"]
 Zs:DI K mg "fill_in" 133 ["layout","rounded"]
 Vq:DI K mg "find_exponent" 140 ["number","size"]
 Ur:DI K mg "round_by_exponent" 141 ["layout","number","exponent"]
 U3:DI K mg "exponent_codes" 142 ["layout","exponent"]
 Ys:DI K mg "as_it_is" 143 ["number"]
 Uj:DI K mg "show_with_exponent" 139 ["layout","number"]
 ad4:rX K mg "Layout" "Layout.__init__" (inClass (top 127) 0) ["self","pieces"] ["pieces","exponent","whole","behind","has_groups","factor","divisor"]
 Wd:DI K mg "show_digits" 132 ["pieces","number"]
 WL:DI K mg "with_minus" 173 ["has_minus","codes"]
 ae0:DI K mg "put_in" 169 ["pieces","name","codes"]
 ao1:DI K mg "holds" 80 ["condition","number"]
 aC4:DI K mg "fits" 171 ["section","at","many","number"]
 Vn:DI K mg "text_sections" 124 ["sections"]
 UK:DI K mg "number_sections" 125 ["sections"]
 am2:rX K mg "Shown" "Shown.__init__" (inClass (top 166) 0) ["self","colour","codes"] ["colour","codes"]
 Xu:DI K mg "show_text" 168 ["sections","text"]
 UI:DI K mg "show_by_section" 172 ["section","at","number"]
 XA:DI K mg "is_number" 68 ["number"]
 Zq:DI K mg "is_text" 69 ["codes"]
 Yq:DI K mg "is_value" 67 ["value"]
 VU:DI K mg "demand_value" 66 ["value"]
 Wc:DI K mg "show_number" 170 ["sections","number"]
 WO:DI K mg "show_value" 167 ["sections","value"]
section
def ow{CX:jx}{k:Nat}{x:Str}{st:Stmt}{ps:List Str}{sp:Sp}(T:TX P w K mg)(B:K.In base)(D:yO K mg x st ps)(ok:∀(f:Addr) (fd:FuncData),dM K x x st f fd->dJ P w K mg base CX k f fd ps sp):Own P w K mg base CX k x ps sp:=D.own ok
def tE{CX:jx}{k:Nat}{x q:Str}{st:Stmt}{ps:List Str}{sp:Sp}{C:Addr}(T:TX P w K mg)(B:K.In base)(D:yP K mg x q st ps C)(ok:∀(f:Addr) (fd:FuncData),dM K "__init__" q st f fd->dJ P w K mg base CX k f fd ps sp):jD P w K mg base CX k C x ps sp:=D.own ok
def aq2{h:Heap}(X:K.In h)(KB:K.In base)(GB:base.Ns mainGlobals mg)(T:TX P w K mg)(k3:Qu X "NoPicture" "WrongArgument" "CannotShow")
  (F:dM K "show" "show" yV f fd)(D:DD K mg):dJ P w K mg base cY 10 f fd ["picture","value"] (F3 K):=by
 obtain⟨C1,C2,C3,m2,m3,x1,x2,x3,M2,M3,Ac,Ab,Aa⟩:=k3;have EX:=FG KB GB x1.1 x1.2;have T3:=FG KB GB x2.1 x2.2;have TZ:=FG KB GB x3.1 x3.2;have FB:=PySem.F.excBase_ValueError;obtain⟨j6,JF,JS⟩:=D.Xp;have Jw:DJ K j6:=⟨JF.cl,JS.1,JS.2.1⟩;obtain⟨j_,LX,E4⟩:=D.am3;have l9:lB K j_:=⟨LX.cl,E4.1,E4.2.1,E4.2.2.1⟩;obtain⟨kq,MT,FA⟩:=D.aA9;have uw:sy K kq:=⟨MT.cl,FA.1,FA.2.1,FA.2.2.1⟩;obtain⟨ZP,Kg,AG⟩:=D.Ze;have uc:rY K ZP:=⟨Kg.cl,AG.1,AG.2.1,AG.2.2.1,AG.2.2.2.1⟩;obtain⟨aD4,MU,FD⟩:=D.aB0;have Mb:aq4 K aD4:=⟨MU.cl,FD.1,FD.2.1,FD.2.2.1⟩;obtain⟨af6,K3,LA⟩:=D.ad5;have D7:AO K af6:=⟨K3.cl,LA.1,LA.2.1⟩;obtain⟨af5,K2,uo⟩:=D.ad4;have uf:r8 K af5:=⟨K2.cl,uo.1,uo.2.1,uo.2.2.1,uo.2.2.2.1,uo.2.2.2.2.1,uo.2.2.2.2.2.1,uo.2.2.2.2.2.2.1⟩;obtain⟨aq8,LW,MC⟩:=D.am2;have Lf:EE K aq8:=⟨LW.cl,MC.1,MC.2.1⟩;have Be:=ow T KB D.an9 λ_ _ F=>ab0 T F;have ud:=ow T KB D.Yr λ_ _ F=>ab9 T F;have Jp:=ow T KB D.Wf λ_ _ F=>Y0 T Be ud F;have Vh:=ow T KB D.Vr λ_ _ F=>ay8 T F;have WD:=ow T KB D.WW λ_ _ F=>ak4 T Vh F;have ac3:=ow T KB D.ae1 λ_ _ F=>YX T F;have Xg:=ow T KB D.Xy λ_ _ F=>ab4 T F;have Dh:=ow T KB D.U5 λ_ _ F=>ab8 F;have VH:=ow T KB D.VT λ_ _ F=>YY T F;have Jg:=ow T KB D.VR λ_ _ F=>ai8 T Dh VH F;have uz:=ow T KB D.ao0 λ_ _ F=>ab3 T F;have Xj:=tE T KB JF λ_ _ F=>Ww Jw F;have Bf:=tE T KB LX λ_ _ F=>ac2 l9 F;have aA0:=tE T KB MT λ_ _ F=>ak5 uw F;have Y8:=tE T KB Kg λ_ _ F=>X_ uc F;have WB:=ow T KB D.WS λ_ _ F=>aj3 T WD ac3 Xg uz Xj F;have UR:=ow T KB D.UY λ_ _ F=>ab1 T Jp WB F;have Je:=ow T KB D.Vu λ_ _ F=>ac0 T EX FB F;have T5:=ow T KB D.T6 λ_ _ F=>aj5 (C:=⟨j_,kq,j6⟩) T EX FB Dh Bf F;have UU:=ow T KB D.U4 λ_ _ F=>ak3 T F;have JQ:=ow T KB D.Xz λ_ _ F=>ab5 (C:=⟨j_,kq,j6⟩) T UU Bf aA0 F;have Yb:=ow T KB D.Yp λ_ _ F=>aj2 T EX FB Be JQ F;have Vj:=ow T KB D.Vt λ_ _ F=>az3 T ud F;have US:=ow T KB D.UZ λ_ _ F=>ax2 T F;have VE:=ow T KB D.VN λ_ _ F=>aj4 T EX FB Be Je Vj UR US JQ Bf F;have WA:=ow T KB D.WR λ_ _ F=>aG2 T EX FB Be ud Jp Dh Je T5 VE Yb Bf F;have V7:=ow T KB D.We λ_ _ F=>aG3 T l9 WA F;have Jz:=ow T KB D.WM λ_ _ F=>av3 T F;have UG:=ow T KB D.UL λ_ _ F=>ax9 T Jz F;have Up:=ow T KB D.Us λ_ _ F=>aj9 T Jz F;have Uq:=ow T KB D.Uu λ_ _ F=>ax7 (C:=⟨j_,kq,j6⟩) T l9 F;have Uy:=ow T KB D.UA λ_ _ F=>az7 T l9 UG Up Uq F;have Xi:=ow T KB D.XD λ_ _ F=>aG4 T l9 EX FB Uy F;have VG:=ow T KB D.VQ λ_ _ F=>aj7 T l9 EX FB Xi Y8 F;have Uh:=ow T KB D.Uk λ_ _ F=>az6 (C:=⟨j_,kq,j6⟩) T uc F;have Vf:=ow T KB D.Vp λ_ _ F=>aG1 T EX FB Jg V7 VG Uh F;have o1:=ow T KB D.VS λ_ _ F=>ak0 F;have o2:=ow T KB D.VP λ_ _ F=>aj8 T o1 F;have o3:=ow T KB D.Ut λ_ _ F=>ax4 F;have o4:=ow T KB D.XC λ_ _ F=>ab6 T o3 F;have oC:=tE T KB MU λ_ _ F=>ab7 Mb F;have Y7:=ow T KB D.Zt λ_ _ F=>YZ T o4 o2 oC F;have Wx:=ow T KB D.WN λ_ _ F=>ai9 F;have pY:=ow T KB D.XE λ_ _ F=>az0 T ud F;have Dg:=ow T KB D.UJ λ_ _ F=>aw8 F;have Xe:=ow T KB D.Xw λ_ _ F=>aj6 T ud F;have Jd:=ow T KB D.Vo λ_ _ F=>aj1 T uw pY F;have V4:=ow T KB D.Wb λ_ _ F=>aj0 T uw pY Jd F;have Xa:=ow T KB D.Xr λ_ _ F=>av6 T pY F;have Xf:=ow T KB D.Xx λ_ _ F=>aw0 T ud F;have WC:=ow T KB D.WU λ_ _ F=>ay0 (C:=⟨j_,kq,j6⟩) T l9 uw F;have Wz:=ow T KB D.WQ λ_ _ F=>aw7 (C:=⟨j_,kq,j6⟩) T l9 uw uz Dg F;have Xd:=ow T KB D.Xv λ_ _ F=>av9 T uw Mb pY Jd Y7 Wx Xa Xf F;have Xb:=ow T KB D.Xs λ_ _ F=>aw3 (C:=⟨j_,kq,j6⟩) T l9 uw TZ FB Wz Xe V4 WC pY Xd F;have JA:=ow T KB D.WT λ_ _ F=>ax6 T F;have T9:=ow T KB D.Ua λ_ _ F=>az4 T JA F;have Ux:=ow T KB D.Uz λ_ _ F=>ay1 T JA F;have JB:=ow T KB D.WV λ_ _ F=>ay9 T F;have Y6:=ow T KB D.Zr λ_ _ F=>ay3 T F;have Vi:=ow T KB D.Vs λ_ _ F=>az2 T pY JB F;have V3:=ow T KB D.Wa λ_ _ F=>av4 (C:=⟨j_,kq,j6⟩) T uf pY JB Y6 F;have VF:=ow T KB D.VO λ_ _ F=>ax0 (C:=⟨j_,kq,j6⟩) T l9 F;have Ly:=tE T KB K3 λ_ _ F=>Y3 D7 F;have KN:=ow T KB D.Zs λ_ _ F=>ay5 T uf uz V3 Vi VF Ly F;have Vg:=ow T KB D.Vq λ_ _ F=>ay6 T pY F;have Uo:=ow T KB D.Ur λ_ _ F=>aw9 (C:=⟨j_,kq,j6⟩) T uf uz Dg F;have UT:=ow T KB D.U3 λ_ _ F=>ay7 (C:=⟨j_,kq,j6⟩) T l9 uf pY F;have J8:=ow T KB D.Ys λ_ _ F=>az5 T pY F;have Ug:=ow T KB D.Uj λ_ _ F=>av7 T uf D7 Vg Uo uz KN UT Ly F;have ac4:=tE T KB K2 λ_ _ F=>ax5 (C:=⟨j_,kq,j6⟩) T l9 uf Ux T9 uz F;have V6:=ow T KB D.Wd λ_ _ F=>aw5 T uf ac4 Ug uz Dg KN F;have Jy:=ow T KB D.WL λ_ _ F=>av2 T F;have Lx:=ow T KB D.ae0 λ_ _ F=>ax1 (C:=⟨j_,kq,j6⟩) T l9 F;have ak8:=ow T KB D.ao1 λ_ _ F=>ay2 Jw F;have az9:=ow T KB D.aC4 λ_ _ F=>ay4 (C:=⟨j_,kq,j6⟩) T uc ak8 F;have Jc:=ow T KB D.Vn λ_ _ F=>av5 (C:=⟨j_,kq,j6⟩) T uc F;have UE:=ow T KB D.UK λ_ _ F=>ax3 T Jc F;have EW:=tE T KB LW λ_ _ F=>ac1 Lf F;have Xc:=ow T KB D.Xu λ_ _ F=>av8 T uc Lx EW F;have UD:=ow T KB D.UI λ_ _ F=>aw6 T uc D7 Xb V6 Jy Lx J8 F;have Xh:=ow T KB D.XA λ_ _ F=>ak2 T F;have Y5:=ow T KB D.Zq λ_ _ F=>ak1 T Jg F;have Yc:=ow T KB D.Yq λ_ _ F=>ax8 T Xh Y5 F;have VI:=ow T KB D.VU λ_ _ F=>az1 T T3 FB Yc F;have V5:=ow T KB D.Wc λ_ _ F=>aw4 T uc az9 UD Jy J8 EW F;have Wy:=ow T KB D.WO λ_ _ F=>aw2 T UE Jc V5 Xc ud EW F;exact aw1 T Lf EX T3 TZ FB (N5 KB M2) (N5 KB M3) Ac Ab Aa Vf VI Wy F
end
end NP
namespace PySem.Challenge
open PySem PySem.W PyProof.Rows PySem.Spec
abbrev BY(p:Program):Program:=PySem.W.view p [178]
noncomputable def namesIn:List Stmt->List Str
 |[]=>[]
 | .FunctionDef name _ _ _ _ _ _ _ _ _::r=>name::namesIn r
 | .ClassDef name _ _ _ _ _ _ _ _ _ _::r=>name::namesIn r
 | .Assign [.Name x _] _ _::r=>x::namesIn r
 |_::r=>namesIn r
abbrev Ru(p:Program):List Str:=namesIn (p.main.body.take 178)
abbrev RR:OpenSpec:=PySem.Challenge.rw_numberpictures_s02_show
theorem PySem.W.holds_os{q:Program}{loose:List Str}{Xt:Shared->Bool}{XP:(Str->Option Value)->Heap->Prop}{α:Type}{Yf:Shared->α}{Ya:World->α}{YP:World->Heap->Prop}{d:DefRec}{Hq:List (Str×Expr)}{N:Nat}
  (left:LeftO RR.prog (BY RR.prog) (Ru RR.prog) Xt Yf Ya N)(hY:∀w s,Yf s=Ya w->YP w s.heap)(hYk:∀w h h',YP w h->(∀b o,h.get? b=some o->h'.get? b=some o)->YP w h')
  (hX:∀s,Xt s=true->XP (s.heap.nsMap mainGlobals) s.heap)(hXk:∀mg h h',XP mg h->(∀b o,h.get? b=some o->h'.get? b=some o)->XP mg h')
  (aP2:defOf (BY RR.prog) RR.name=some (d,Hq))(hp:RR.prog.theDef RR.name=some (d.params,d.body,d.scope))(hk:kwWritten? d.params.kwonlyargs d.params.kw_defaults=some Hq)(hRf:∀s,Xt s=true->RecFacts [] s.heap)(hsh:∀as,RR.pre as=true->WShape.hasAll [] as (RR.args.map Codec.shape)=true)
  (k1:0<1)(ok:(chainsOk (BY RR.prog)&&opensWell RR.prog)=true)(hb:0=0/\0=0/\0=0/\0=0/\0=0/\0<1)(hw:∃args,RR.pre args=true/\WData.layableAll args=true)
  (call:WalkOS (BY RR.prog) (Ru RR.prog) XP YP RR d Hq λf vs=>PySem.call f vs):RR.Holds:=
 _root_.PySem.W.holds_os left hY hYk hX hXk aP2 hp hk hRf hsh Oq ok aI7 hw call
end PySem.Challenge
structure PySem.W.Fast:Prop where(tw8021453766657008173 tw4310779072361782520 tw3227152222548950863 tw4342911866591282683 tw11882317386555425804 tw4639106689883506970 tw6294227577503322208 tw2244122801697991927 tw17971101478628547413 tw13013621413654175461 tw1098690577229377133 tw3780512873941031683 tw5298166837946374392 tw2796203645447800526 tw1338140317704101460 tw8823394839681679670 tw13735924156370520418 tw3427741412846226858 tw2525410294710845690 tw6776651692617345484 tw16611769781798802931 tw15848122847584449244 tw5496708066081794424 tw2451181903390899785 tw15237081523333583003 tw13919945587552270581 tw1047273194776884066 tw5142418127785862286 tw7754604755570753415 tw15352364749867676006 tw2500000427770795193 tw10957559528444657647 tw17551237371953602215 tw6589328302024035867 tw420565073946546655 tw16040601561217767257 tw16842970193993786348 tw5298404183466952234 tw8845900804716471331 tw855492210128093471 tw10853026767878922481 tw9928610829333532081 tw13435548697799304351 tw15936518982931949405 tw2252869756529267282 tw11255070449601976433 tw3058891339788067046 tw4088254602096763381 tw10639786899731491648 tw9408734985563216079 tw15677220161994953561 tw5679450795908712401 tw7559429499188930100 tw11554058529537415125 tw11514604883499292415 tw17890357091009525099 tw10938615474951709804 tw17661336389370372399 tw5376417106426347865 tw9109290955565646365 tw12658012649232638930 tw7515788327592920419 tw9267575054279823068 tw17741243022392095720 tw2516985157032537101 tw12693858254111581799 tw10474874735760445780 tw4876824754178200679 tw660658447899599046 tw7626207883489301933 tw17877592933540844209 tw4562675710787494956 tw17370502794770414531 tw10803150719295515558 tw8634452914005982326 tw17441298556913453900 tw16937018189733556475 tw8760208422490020517 tw2339351229255345720 tw5244176305711327510 tw15048303102555346529 tw8727995689390663329 tw3655935732249356830 tw15170951327444519277 tw3977092905826958711 tw14411560796052563683 tw6337131344928048755 tw15300394125659654239 tw18174440927747078128 tw1260337161820776877 tw2691031510467900842 tw2081372448176694901 tw7859642206956816869 tw95451077376004052 tw16455873184854473600 tw15175340503332428835 tw1951757771489623422 tw1351559982285152916 tw13896876884731078551 tw1896636794247354413 tw15840191514027112535 tw16513879165686917670 tw7295455438543813981 tw6408075013178881625 tw4358777255713071629 tw14208763547598910788 tw17107855225644971741 tw13270130645230959722 tw7404372726788669888 tw7790125963336042125 tw12642005431608887318 tw16533828466888336263 tw6055045939740818361 tw5900737981629949873 tw10725134997600505040 tw5679193664147421437 tw8921036852780275028 tw15744228774435339291 tw5078893987847169296 tw17057185174151567421 tw1992427315750324273 tw1763822471350449175 tw2640203915129062748 tw1206180790283887494 tw15636124255832914423 tw4006188928252629466 tw10008474185965746421 tw5215917495324166556 tw3329200877204722189 tw8127770998694352198 tw2672155771117424941 tw15696165183433934709 tw8160765181509470015 tw9266944831979683919 tw3429201896947565988 tw17442081840330159938 tw8783584808452738794 tw6415211489327182110 tw8199398536250039239 tw13942295832163937087 tw16250556706149404456 tw1157595247961541849 tw5623334883218985000 tw17952061144780861168 tw13568227993940295868 tw14769298173886746409 tw17142118755438915359 tw5649039260619262535 tw5373155006837902163 tw13504163413154346264 tw9973138919599973303 tw14781534314568141749 tw14631078210990447704 tw2712323657258346203 tw4070268496287604578 tw14625270957989574730 tw13648682823513956708 tw15612462455144912122 tw16005419635158056885 tw14092840618907023018 tw12329112545523077652 tw7481672300976318821 tw12529650064793354294 tw14574551069012315685 tw2468807186655066841 tw8169158128000584082 tw18435989387846294023 tw13808753451011259160 tw11474512350572674329 tw9611318468766203938 tw12736800712643059384 tw1781947415467510922 tw10543866631959011548 tw1999569102923478573 tw308365694925582119 tw5090259220829285954 tw14281262340664942901 tw1720942108050626761 tw2313625822799685479 tw597782300588544939 tw12144401049133442432 tw2149586791043167027 tw5462634836628358386 tw12815234695957158605 tw17157451017694009375 tw423300854106364602 tw9763342726086591089 tw11885111812588737789 tw9719434146730160869 tw9166559327385846277 tw9015610770730590450 tw11266570019715264150 tw11054055366514891074 tw8618087070842157913 tw17068373624964927366 tw730107825513306840 tw10339436109754025763 tw9213090567109319462 tw7357122547543403689 tw6511700955488225286 tw9320439595204776216 tw10101321627237515572 tw6624164734272951718 tw18218453901964841316 tw11942951386262247630 tw17256116155724979285 tw1278456601773792542 tw13087970977741908556 tw4945817458422579815 tw3396843492867565562 tw4667420509657086420 tw11550204780464381603 tw17901926189606651749 tw8418321781852975019 tw17496280719215517417 tw14457521679975596095 tw7169900772803124051 tw2594872580282689813 tw17632569679554746609 tw14018526460469373025 tw11845644623188596329 tw8345078497708338571 tw5674345562609367184 tw9333178960017512925 tw17004741510585094021 tw4688167230894462890 tw12076309437304258742 tw15378035042432758609 tw12126934017904374571 tw18421123744424851112 tw11523880576351759981 tw4750880950144663461 tw16768286280169524058 tw8087583735061398076 tw4230659916171156339 tw457399758809750442 tw2570698282001017421 tw9349279055460031622 tw4078248773498679195 tw14038459934005682047 tw13545821928541964797 tw3365616171086120722 tw9287570418175478278 tw4366249718627900497 tw12472958858236643761 tw11117880653003416536 tw15742137241617109154 tw2177394340962760117 tw9190176042506789519 tw9996662990479970355 tw8215871696858150043 tw5082401340605940804 tw11351804880374525138 tw12930154043254098326 tw17849827025200413715 tw15822885672553092806 tw1853078002492338045 tw7006262547323450609 tw7449556805417696769 tw11758600576849428666 tw13494809082879019263 tw14728501676145413880 tw10439481997496581263 tw11169557866863583339 tw13443263752339485428 tw13986208317061473673 tw13409023493559979646 tw448168056924716343 tw8171422704184080088 tw2205590417474766681 tw11048185669644332339 tw17629843335618451030 tw15316932666797094485 tw1957789934761200746 tw5578146573748878691 tw10350856747573145740 tw13086931323115393987 tw9497408425080369529 tw775164821876427987 tw3004997642002421203 tw13729290536782332926 tw16698463134118015139 tw16309815618657845348 tw5838958933264449887 tw12896142322447566007 tw17058316973121900126 tw16111255568536842967 tw8224579118725100112 tw14390911217286144293 tw13935750736315812648 tw9607771082756343306 tw16748591403173923466 tw12218349085068013836 tw11445663421389168484 tw6807783874659095643 tw870620751194378521 tw18205490023782566004 tw7867024501154837525 tw17205780318277110841 tw10004491706342478460 tw30081216494345797 tw607693062426251691 tw3765893270573740856 tw15966168283180513054 tw9038396937058192556 tw7459728395219829852 tw17271769764909844646 tw5914615056007493566 tw3839888253263840099 tw2128688175128616024 tw15179668537341120016 tw8979069965295444329 tw8348368492286027849 tw7253123308090397622 tw7111295326892412973 tw16113424329130334002 tw4891305816453446603 tw2899556799172268446 tw16941707719813109921 tw16474566979955919833 tw1572410791134960239 tw3339134921598012161 tw1765024578850689545 tw16407485286002414937 tw16080320447377240874 tw14300823080920667626 tw11807561427907585815 tw10876971590793107969 tw17942971885814217467 tw13593406959162465129 tw8277694248752382801 tw6748147616465285945 tw3361576088769366690 tw17457636969803232767 tw14474607118732178511 tw1916215845160952988 tw17621943486203475182 tw15253482873799890615 tw5877798679851515949 tw14339029695648005652 tw8549399999362663701 tw8190124567480597562 tw7698044570116987419 tw11307953524791277094 tw11152006878824703319 tw8689881755391089596 tw6531087878512216293 tw6251277968937112148 tw6022672963320387724 tw16826681424083843295 tw7338672523895331555 tw12817345261895412096 tw11578395795301697123 tw5039195666303033890 tw1435864738160112217 tw1891074718671869035 tw15065418187591388093 tw9839297511230436944 tw9271657786305495240 tw18341675524972804767 tw17932852870941410464 tw7613745785686733518 tw4634362640179816326 tw4384404189620841496 tw4025019359781659675 tw14862569166768358844 tw9177655373686824696 tw6940372123595169640 tw10499319221938465979 tw3275649945489970129 tw8793305714692563057 tw8106937422424880510 tw6332367514698784096 tw10829666347777769327 tw17702109608409159804 tw13909959242599118699 tw13175231393524259920 tw1612123776433639422 tw3122822287449677031 tw12841952022553135159 tw17199073469888137317 tw142290593719739805 tw3570541223233946477 tw3416675313647589212 tw7805459020422758562 tw3327588808287204870 tw13272523972502958283 tw41808640280657969 tw5959155372382777003 tw3513300492549446293 tw17364292696913999502 tw10119880907279172718 tw16360243023655939014 tw1572662632380339726 tw9944585026306626508 tw5924829876810699178 tw12083621663033696786 tw14137683447986517765 tw8603715842727809210 tw1266622136209073156 tw12910358586144957369 tw17935178850260104000 tw13131870125717013249 tw14486915727853841728 tw10532475128413412533 tw2219001403270021804 tw7025395245184977771 tw10151509391853852245 tw4784386042505271389 tw12381352900054409091 tw8432498735749006378 tw6963120409859572625 tw15365346740300305743 tw14431639106362682568 tw7464613518964377749 tw16783390839722161575 tw3607918613296716404 tw6531781208832328772 tw13878513258098547744 tw2406427982089615979 tw14206935902948144278 tw5388520563170953013 tw4082839086563686243 tw18086338516727177731 tw8053575566404548362 tw1767845759438907355 tw16193500145592137404 tw10171406962250526073 tw9646055722516565151 tw2653201945807861297 tw15380576104382375766 tw9825897546539400009 tw8301380078914444203 tw7388937389694713093 tw5750431895524101430 tw5491693023403189593 tw5486171590207934432 tw4335510490341720731 tw3206168462519870818 tw1988189865198275496:True)
open PySem PySem.W PyProof.Rows
theorem PySem.Challenge.cw_numberpictures_s02_show_holds : PySem.Challenge.rw_numberpictures_s02_show.Holds := by
 w_on;k_headS;(case hw=>exact⟨[.list [],.list [.int 0]],(),()⟩)
 k_fillS
 refine L2.XY (r:=PySem.Challenge.rw_numberpictures_s02_show) (k:=10) (CX:=L2.cY) (ps:=["picture","value"]) (sp:=NP.F3) PySem.Challenge.Oq rfl rfl ⟨rfl,(),()⟩ (λw h Y=>PySem.W.kIn_of Y) ?F ?S (λ_ _ _ _ z=>z)
 case F=>
  intro w mg fa h Y KX G HJ;have T:L2.At KX λK=>NP.TX NP.PR w K mg:=by
   constructor<;>first
    |(refine' L2.aG7 KX G ?a;(case a=>k_is))
    |(refine' L2.aI3 KX G ?a;(case a=>k_is))
    |(refine' L2.aI2 KX G ?a;(case a=>k_is))
    |(refine' L2.ar3 KX G ?a ?l ?z ?v;(case a=>k_is);(case l=>k_is);(case z=>decide);(case v=>repeat (first |exact .nil|refine .cons ⟨_,rfl⟩ ?_)))
    |(refine' L2.aC3 KX G ?a ?l ?ns ?few ?nd ?en;(case a=>k_is);(case l=>k_is);(case ns=>rfl);(case few=>decide);(case nd=>decide+kernel);(case en=>repeat (first |exact .nil|refine .cons rfl rfl ⟨_,rfl⟩ ?_)))
  have k3:L2.Qu KX "NoPicture" "WrongArgument" "CannotShow":=by
   refine' L2.ZW KX ?xa1 ?xa2 ?xa3 ?xl2 ?xl3 ?xm2 ?xm3 ?xq1 ?xq2 ?xq3 ?xn1 ?xn2 ?xn3
   (case xa1=>k_is);(case xa2=>k_is);(case xa3=>k_is);(case xl2=>k_is);(case xl3=>k_is)
   (case xm2=>rfl);(case xm3=>rfl);(case xq1=>k_exc);(case xq2=>k_exc);(case xq3=>k_exc)
   (case xn1=>decide);(case xn2=>decide);(case xn3=>decide)
  have D:L2.At KX λK=>NP.DI K mg "show" 178 ["picture","value"]:=by
   refine' L2.LV KX G ?a ?l ?c ?k ?b
   (case a=>k_is);(case l=>k_is);(case c=>k_is);(case k=>k_is)
   case b=>exact λ_ _ _ _ _ _=>L2.C5 λ_=>L2.C5 λ_=>L2.IA rfl
  have W:L2.At KX λK=>NP.DD K mg:=by
   constructor<;>first
    |(refine' L2.LV KX G ?a ?l ?c ?k ?b;(case a=>k_is);(case l=>k_is);(case c=>k_is);(case k=>k_is);(case b=>intro _ _ _ _ _ _;repeat (first |exact L2.IA rfl|refine L2.C5 λ_=>?_)))
    |(refine' L2.aC7 KX G ?a ?a1 ?i1 ?l ?c ?k ?pg ?hd ?po ?sa ?mk ?kc ?b ?n;(case a=>k_is);(case a1=>k_is);(case i1=>k_is);(case l=>k_is);(case c=>k_is);(case k=>k_is);(case pg=>k_is);(case hd=>k_is);(case po=>k_is);(case sa=>k_is);(case mk=>k_is);(case kc=>k_is);(case b=>intro _ _ _ _ _ _;repeat (first |exact L2.IA rfl|refine L2.C5 λ_=>?_));(case n=>repeat (first |exact trivial|(refine' L2.al2 ?_ ?_;k_is))))
  obtain⟨f,fd,h1,h2,h3,h4⟩:=D.ex;have e:=HJ.symm.trans h1;cases e;exact⟨fd,h4,λbase KB GB=>NP.aq2 KX KB GB T k3 h2 W⟩
 case S=>
  intro K H xs a hO Hw GH hx;cases hx with
  |cons h1 h2=>
   cases h2 with
   |cons h2 h3=>
    cases h3;cases h1 with
    |lst hs ha=>
     have e:=L2.E8 a.1 _ ha;subst e;cases h2 with
     |lst Ct ha2=>
      have e:=L2.E8 a.2.1 _ ha2;subst e;have GH:PySv68.show__asked a.1 a.2.1=true:=GH;obtain⟨v,hb,hl,hv⟩:=NP.ZG GH;have eb:=NP.BE hb;refine⟨_,NP.oct a.1,_,a.2.1,v,rfl,by unfold NP.bv;rw[eb];exact hs,?_,Ct,hv,λp H' hp=>?_⟩
      .have:=NP.p_ (NP.oct a.1);rw[eb]at this;omega
      .rw[NP.as4 hv,eb]at hp;exact .lst (L2.cU.of hp) (L2.MN _)
