import Derived.Test.YtbfnhppoecdnoaaGreatDoorJ02
import Derived.Maps.Ext
import Derived.Sort.KeysCollected
import Derived.Deep.DeepCutAuto
import Derived.Deep.CutBlock
import Derived.StillTail
import Derived.Stop.Asserts
import Derived.RowKitTokens
set_option maxRecDepth 100000
set_option maxHeartbeats 4000000
set_option linter.defProp false
open Option renaming some->bA,none->aA
open ByteArray renaming empty->kA
open Bool renaming false->cA,true->dA
namespace Go.Proofs.YtbfnhppoecdnoaaGreatDoor
open Go renaming World->eA,Value->iA,TypeId->jA
open Value renaming slice->oA,string->nA,int->lA,tuple->uA,bool->pA
open IntKind renaming i64->mA
open RowKit renaming Below->fA
open Go.RowKit Tryz
def ly(w:eA)(n:Int):(convert 124 9 (oA (bA ⟨w.1.size,0,aA⟩) 1 1)).run prog (w.alloc (.cells #[.int .u8 n] 5))=.ok (nA ⟨#[UInt8.ofNat n.toNat]⟩) (w.alloc (.cells #[.int .u8 n] 5)):=by
 rw[run_convert_bytes_string _ 124 9 5 _ 1 1 underlying124 underlying5 underlying9,run_bytesToString _ _ 1 1 [n] (by simp[go_sem,loadCells])];rfl
def iu(c:UInt8)(s:gB):((⟨#[c]⟩:gB)++s).data.toList=c::s.data.toList:=by
 simp
def JQ(c:UInt8)(s:gB):((⟨#[c]⟩:gB)++s).size=s.size+1:=by
 rw[Ka];show 1+s.size=_;omega
def ZM(s:gB)(l:List UInt8)(h:s.data.toList=l):s=⟨l.toArray⟩:=by
 subst h;simp
def vx{n:Nat}(h:0<n)(a:List UInt8):pN n n a=pN (n / 10) (n / 10) ((48+UInt8.ofNat (n % 10)):: a):=by
 obtain⟨m,rfl⟩:∃m,n=m+1:=⟨n-1,by omega⟩
 conv=>lhs;rw[pN]
 rw[Ja (by omega)];exact MM _ _ _ _ (by omega) (Ia _)
def fu(k:Nat)(w:eA)(o:0<k)(p:k<=1000000000):
 qD 149 #[lA mA (k:Int)] w (nA (mt k)):=by
 have i:=ly;go_enter func149,ntmps149;go_wp2;go_loopw [0,3] (fun a s wr=>∃(n:Nat)(c:gB),c.size+n<=k/\a=lA mA n/\s=nA c/\pN n n c.data.toList=pN k k []/\kB w wr) (fun a _ _=>(intOf a).toNat)
 case atStart=>exact⟨k,kA,by simp,rfl,rfl,rfl,eD⟩
 case round=>
  obtain⟨n,c,q,rfl,rfl,d,b⟩:=hrel;have f:xA (pN n n c.data.toList=pN k k []):=d;clear d;have l:(c.size:Int)<=1000000000:=by omega
  by_cases j:0<n
  .go_wp2;refine⟨⟨n / 10,_,?_,by go_num,rfl,?_,b.alloc b.size _⟩,by simp[intOf];omega⟩
   .rw[JQ];omega
   rw[iu,<-vx j];exact f.o
  go_wp2;go_ret;refine⟨?_,b⟩;have g:n=0:=by omega
  have d:=f.o;rw[g]at d;have e:c.data.toList=pN k k []:=by rw[<-d];rfl
  have h:((⟨#[109]⟩:gB)++c)=mt k:=by
   unfold mt;exact ZM _ _ (by rw[iu,e])
  exact Kd (fun x=>Ending.returned (nA x)) h
def bJ(k:Int)(n:Nat)(c:k=(n:Int))(w:eA)(a:0<n)(b:n<=1000000000):
 qD 149 #[lA mA k] w (nA (mt n)):=c ▸ fu n w a b
section
open Go.Maps
def kL(s:gB):Lit:=.string s.data.toList
theorem BR(s:gB):kL s=.string s.toList:=by rw[kL,ByteArray.toList_eq]
theorem aJt{x y:gB}(h:kL x=kL y):x=y:=by
 rw[BR,BR]at h;exact toList_inj (by simpa using h)
def MA:∀x y:List UInt8,bytesBefore x y=Op.bytesLess x y
 |[],[]=>rfl
 |[],_::_=>rfl
 |_::_,[]=>rfl
 |a::x,b::y=>by rw[bytesBefore,Op.bytesLess,MA x y]
def aK(x y:gB):Bool:=Op.bytesLess x.toList y.toList
def gQ(x:gB):aK x x=cA:=iH _
def KK{x y z:gB}(a:aK x y=dA)(b:aK y z=dA):aK x z=dA:=gJ _ _ _ a b
def BJ{x y:gB}(h:aK x y=dA):aK y x=cA:=mQ h
def gW{x y:gB}(h:aK x y=cA)(a:x≠y):aK y x=dA:=gM _ _ h (fun e=>a (toList_inj e))
theorem eJ{x y:gB}(h:aK x y=dA):x≠y:=fun e=>by rw[e,gQ]at h;cases h
theorem XO(x y:gB):(kL x).before (kL y)=aK x y:=by
 rw[BR,BR,aK];exact MA _ _
theorem FK(x y:gB):(kL x).sameKey (kL y)=(x.toList==y.toList):=by rw[BR,BR];rfl
theorem jE(x y:gB):(x.toList==y.toList)=dA ↔ x=y:=by
 rw[Lg];exact⟨toList_inj,fun e=>by rw[e]⟩
theorem cE{x y:gB}(h:x≠y):(x.toList==y.toList)=cA:=by
 rw[Yc];exact fun e=>h ((jE x y).1 e)
section
variable {V:Type}
def fT(L:List (gB×V)):Prop:=L.Pairwise (fun p q=>aK p.1 q.1=dA)
def lk(L:List (gB×V))(k:gB):Option V:=(L.find? (fun p=>p.1.toList==k.toList)).map (·.2)
def rT(k:gB)(d:V):List (gB×V)->List (gB×V)
 |[]=>[(k,d)]
 |p::r=>if aK p.1 k=dA then p::rT k d r else if p.1.toList==k.toList then(k,d):: r else(k,d):: p::r
def GR(k:gB)(L:List (gB×V)):List (gB×V):=L.filter (fun p=>!(p.1.toList==k.toList))
theorem aRz(k:gB):lk ([]:List (gB×V)) k=aA:=rfl
theorem IP(p:gB×V)(r:List (gB×V))(k:gB):lk (p::r) k=if p.1=k then bA p.2 else lk r k:=by grind [lk,jE,cE]
theorem yk{L:List (gB×V)}{k:gB}{d:V}(h:lk L k=bA d):(k,d) ∈L:=by induction L<;>grind [lk,IP]
theorem aOs{L:List (gB×V)}{k:gB}(h:lk L k=aA):∀p∈L,p.1≠k:=by induction L<;>grind [lk,IP]
theorem ym{L:List (gB×V)}{k:gB}(h:∀p∈L,p.1≠k):lk L k=aA:=by
 cases hl:lk L k with
 |none=>rfl
 |some d=>exact absurd rfl (h _ (yk hl))
theorem fT.head{p:gB×V}{r:List (gB×V)}(h:fT (p::r)):∀q∈r,aK p.1 q.1=dA:=(Bc.1 h).1
theorem fT.tail{p:gB×V}{r:List (gB×V)}(h:fT (p::r)):fT r:=(Bc.1 h).2
theorem ZF{L:List (gB×V)}(a:fT L){k:gB}{d:V}(h:(k,d) ∈L):lk L k=bA d:=by
 induction L with
 |nil=>cases h
 |cons p r b=>
  rw[IP];rcases Lb.1 h with e|h;rw[<-e,Ma rfl];have:=a.head _ h;rw[Ja (eJ this)];exact b a.tail h
theorem aFe{k:gB}{d:V}{L:List (gB×V)}{q:gB×V}(h:q∈rT k d L):q=(k,d)\/q∈L:=by induction L<;>grind [rT]
theorem xn{k:gB}{d:V}{L:List (gB×V)}(h:fT L):fT (rT k d L):=by
 induction L with
 |nil=>exact We ..
 |cons p r g=>
  unfold rT;split
  .rename_i b;refine Bc.2 ⟨fun q a=>?_,g h.tail⟩;rcases aFe a with rfl|a
   .exact b
   exact h.head q a
  rename_i b;split
  .rename_i f;rw[jE]at f;refine Bc.2 ⟨fun q a=>?_,h.tail⟩;show aK k q.1=dA;rw[<-f];exact h.head q a
  rename_i f;have c:=gW (by simpa using b) (fun e=>f ((jE _ _).2 e));refine Bc.2 ⟨fun q a=>?_,h⟩;rcases Lb.1 a with rfl|a
  .exact c
  exact KK c (h.head q a)
theorem aKm{k:gB}{d:V}{L:List (gB×V)}(b:fT L)(a:gB):lk (rT k d L) a=if k=a then bA d else lk L a:=by induction L<;>grind [fT,lk,rT,IP,eJ,jE]
theorem RF{k:gB}{L:List (gB×V)}(h:fT L):fT (GR k L):=Mf _ h
theorem pq{k:gB}{L:List (gB×V)}(a:gB):lk (GR k L) a=if k=a then aA else lk L a:=by grind [lk,GR,aRz,jE,IP,cE]
theorem fT.eq_of_lk{g i:List (gB×V)}(j:fT g)(l:fT i)(h:∀k,lk g k=lk i k):g=i:=by
 refine Qf (le:=fun(p q:gB×V)=>aK p.1 q.1=dA) (fun p q f r n m=>by rw[BJ n]at m;cases m) j l ?_;have nd:∀{L:List (gB×V)},fT L->L.Nodup:=fun o=>o.imp (fun{a b} c e=>by rw[e,gQ]at c;cases c);refine(List.perm_ext_iff_of_nodup (nd j) (nd l)).2 fun p=>?_;constructor
 .intro f;exact yk (k:=p.1) (d:=p.2) (by rw[<-h];exact ZF j f)
 intro f;exact yk (k:=p.1) (d:=p.2) (by rw[h];exact ZF l f)
end
def eE(L:List (gB×DataW Unit)):DataW Unit:=.map (L.map fun p=>(kL p.1,p.2))
def SG(L:List (gB×DataW Unit))(k:gB):(L.map fun p=>(kL p.1,p.2)).find? (fun p=>p.1.sameKey (kL k))=(L.find? (fun p=>p.1.toList==k.toList)).map (fun p=>(kL p.1,p.2)):=by
 rw[List.find?_map];congr 1;apply congrFun;congr 1;funext p;exact FK p.1 k
def ko(L:List (gB×DataW Unit))(k:gB)(z:DataW Unit):(eE L).atKey (kL k) z=(lk L k).getD z:=by
 simp only[eE,DataW.atKey];rw[SG,lk];cases L.find? (fun p=>p.1.toList==k.toList)<;>rfl
def aEx(L:List (gB×DataW Unit))(k:gB):has (eE L) (kL k)=(lk L k).isSome:=by
 have h:∀(l:List (Lit×DataW Unit)) f,l.any f=(l.find? f).isSome:=fun l f=>by rw[Qb,List.find?_isSome,Zd]
 rw[eE,has_eq,h,SG,lk];cases L.find? (fun p=>p.1.toList==k.toList)<;>rfl
def zv(L:List (gB×DataW Unit)):Maps.size (eE L)=L.length:=by rw[eE,size_eq,Xa]
def aGl(k:gB)(q:gB×DataW Unit):ChangeMaps.notKey (kL k) (kL q.1,q.2)=!(q.1.toList==k.toList):=by
 show(!(kL q.1).sameKey (kL k))=_;rw[FK]
def GX(k:gB)(L:List (gB×DataW Unit)):(L.map fun p=>(kL p.1,p.2)).filter (ChangeMaps.notKey (kL k))=(GR k L).map fun p=>(kL p.1,p.2):=by
 rw[List.filter_map,GR];congr 1;apply List.filter_congr;intro q _;exact aGl k q
def aEc(k:gB)(L:List (gB×DataW Unit)):(eE L).del (kL k)=eE (GR k L):=by
 rw[eE,DataW.del_eq,ChangeMaps.delKey,GX,eE]
def ew(k:gB)(d:DataW Unit){L:List (gB×DataW Unit)}(g:fT L)(e:lk L k=aA):DataW.insert (kL k,d) (L.map fun p=>(kL p.1,p.2))=(rT k d L).map fun p=>(kL p.1,p.2):=by
 induction L with
 |nil=>rfl
 |cons p r i=>
  have b:=aOs e;rw[Fc,DataW.insert,rT];by_cases h:aK p.1 k=dA
  .rw[Ja (by rw[XO,BJ h];simp),Ma h,Fc,i g.tail (ym fun q f=>b q (Sb _ f))]
  have a:=b p (Kc ..);have c:=gW (by simpa using h) a;rw[Ma (by rw[XO];exact c),Ja h,Ja (by rw[cE a];simp)];rfl
def oq(k:gB)(d:DataW Unit){L:List (gB×DataW Unit)}(a:fT L):rT k d (GR k L)=rT k d L:=by grind [fT,rT,GR,fT.eq_of_lk,xn,RF,aKm,pq]
def aGx(k:gB)(d:DataW Unit){L:List (gB×DataW Unit)}(a:fT L):(eE L).put (kL k) d=eE (rT k d L):=by
 rw[eE,DataW.put_eq,ChangeMaps.putKey,GX,ew k d (RF a) (by rw[pq,Ma rfl]),oq k d a,eE]
theorem zV(L:List (gB×DataW Unit)):strKeys (eE L)=L.map (fun p=>p.1.data.toList):=by
 show((L.map fun p=>(kL p.1,p.2)).map fun p=>strOf p.1)=_;rw[Vd];rfl
end
def FO(v:Int):Nat->Int
 |0=>v
 |k+1=>FO v k / 256
def jZ(v:Int):Nat->List Int
 |0=>[]
 |n+1=>FO v n % 256::jZ v n
def pB(n:Nat)(v:Int):gB:=strOfNums (jZ v n)
def AR(v:Int):∀n,(jZ v n).length=n
 |0=>rfl
 |n+1=>by simp[jZ,AR v n]
theorem qB(n:Nat)(v:Int):(pB n v).size=n:=by
 rw[pB,strOfNums_size,AR]
def eo:∃i,prog.info? 5=bA i/\i.zero=bA (.int .u8 0)/\i.size=1/\i.bytes=1:=by
 have h:(prog.info? 5).map (fun i=>(i.zero,i.size,i.bytes))=bA (bA (.int .u8 0),1,1):=by kernel_rfl
 obtain⟨i,b,a⟩:=Wb.1 h;simp only[Dc]at a;exact⟨i,b,a.1,a.2.1,a.2.2⟩
def aIx{w:eA}{B:Nat}{f:iC}{j:Nat}{a:List Int}(h:w.ownsRow B 5 1 (oA f a.length j) a.length (a.map (iA.int .u8))):
 (convert 124 9 (oA f a.length j)).run prog w=.ok (nA (strOfNums a)) w:=by
 rcases h.2 with⟨c,r⟩|⟨g,l,b,c,_,n,p,_,q,d⟩;simp only[iA.slice.injEq]at c;obtain⟨rfl,m,rfl⟩:=c;have e:a=[]:=Nb.1 m;subst e;exact run_convert_bytes_nil w 124 5 underlying124 underlying5 _ _ 9 underlying9;simp only[iA.slice.injEq]at c;obtain⟨rfl,_,rfl⟩:=c;refine run_convert_bytes_arg w 124 5 underlying124 underlying5 g 0 _ _ a rfl (fun i o=>?_) 9 underlying9;rw[Ya,cell_of_row w g i b _ _ n];have k:(b.toList.take (a.length*1))[i]?=(a.map (iA.int .u8))[i]?:=by rw[d]
 rw[Jb (by omega)]at k;rw[<-Yd,k];simp[List.getD,Va o]
def lD(n:Nat)(v:Int)(w:eA)(Z:n<=8)(_o : -9223372036854775808<=v)(_p:v<=9223372036854775807):
 qD 21 #[lA mA n,lA mA v] w (nA (pB n v)):=by
 obtain⟨J,p,B,C,D⟩:=eo;have K:xA (prog.info? 5=bA J):=p;clear p;clear _o _p;go_enter func21,ntmps21;go_wp2;go_loopw [5,6,7,8] (fun E i _ _ wr=>∃(m:Nat)(a:List Int)(s:iC)(t:Nat),a.length+m=n/\xA (a++jZ v m=jZ v n)/\i=lA mA ((m:Int)-1)/\E=oA s a.length t/\xA (wr.ownsRow w.1.size 5 1 (oA s a.length t) a.length (a.map (iA.int .u8)))/\kB w wr) (fun _ i _ _ _=>((intOf i)+1).toNat)
 case atStart=>
  exact⟨n,[],_,_,by simp,by show _=_;simp,by simp,rfl,eA.ownsRow_made w #[] 0 (Ia _) (by simp[maxLen]) (by simp),vB⟩
 case round=>
  obtain⟨m,a,s,t,Y,h,rfl,rfl,d,b⟩:=hrel;by_cases hp:0<m
  .obtain ⟨r,rfl⟩:∃r,m=r+1:=⟨m-1,by omega⟩
   have F:((r+1:Nat):Int)-1=(r:Int):=by omega
   rw[F];clear F;go_wp2;go_loop [7,8] (fun x k=>∃(j:Nat)(X:Int),j<=r/\k=lA mA j/\x=lA mA X/\xA (X=FO v j)) (fun _ k=>r-(intOf k).toNat)
   case atStart=>exact⟨0,v,Oa _,rfl,rfl,rfl⟩
   case round=>
    obtain⟨j,X,W,rfl,rfl,G⟩:=hrel;by_cases R:j<r
    .go_wp2;exact⟨⟨j+1,X / 256,by omega,by go_num,rfl,by show _=_;rw[FO,G.o]⟩,by simp[intOf];omega⟩
    have e:j=r:=by omega
    subst e;have S:=b.size;go_wp2_with(at_builtin;refine wpList_append_lies _ rfl _ _ _ rfl w.1.size 5 J _ 1 1 underlying124 K.o B C D rfl (by omega) (oA s a.length t) a.length (a.map (iA.int .u8)) rfl (by exact jC d.o vB) ⟨wr.1.size,0,aA⟩ 1 1 [.int .u8 (X % 256)] rfl rfl (by exact eA.news_of_block (heap_alloc_new _ _)) (by simp[iA.oneCell']) (by omega) (by simp[maxLen];omega) (by omega) (by simp;omega) (wr.1.size+1) (by simp) ?_;intro N o U c f H I);have y:kB w U:=(oB b vB).grown f (by simp;omega) (fun q u=>by
     rcases d.o.2 with⟨z,_⟩|⟨g,L,M,z,V,_⟩;rw[z]at u;simp[iA.ownBlock]at u;rw[z]at u;simp[iA.ownBlock]at u;omega)
    have A:a.map (iA.int .u8)++[iA.int .u8 (X % 256)]=(a++[X % 256]).map (iA.int .u8):=by simp
    have l:(a++[X % 256]).length=a.length+1:=by simp
    rw[A,<-l]at c;refine⟨⟨j,a++[X % 256],bA ⟨N,0,aA⟩,o,by rw[l];omega,?_,rfl,by rw[l],c,y⟩,by simp[intOf]⟩;show _=_;rw[<-h.o,jZ,G.o];simp
  have e:m=0:=by omega
  subst e;have Q:=aIx d.o;go_wp2;go_ret;refine⟨Kd (fun x=>Ending.returned (nA x)) ?_,b⟩;rw[pB,<-h.o,jZ,Cd]
def xj{C D:Prop}[Decidable C][Decidable D]{α:Type}{x y:α}(h:C ↔ D):(if C then x else y)=if D then x else y:=by grind
def dL{a b c d:Int}(e:a=c)(f:b=d):Ending.returned (uA #[lA mA a,lA mA b])=.returned (uA #[lA mA c,lA mA d]):=by rw[e,f]
def uU(t:gB)(v:Nat):Nat->Nat
 |0=>v
 |j+1=>uU t v j*64+xC t (j+1) % 64
def qQ(t:gB)(n v a:Nat):Nat×Nat:=
 if n<=t.size/\(∀k,k<n->1<=k->xC t k / 64=2)/\a<=uU t v (n-1)/\okR (uU t v (n-1)) then(uU t v (n-1),n) else(0,0)
def aUc(t:gB)(h:xC t 0 / 32=6):MZ t=qQ t 2 (xC t 0 % 32) 128:=by
 rw[aOl t h,qQ];have e:uU t (xC t 0 % 32) (2-1)=xC t 0 % 32*64+xC t 1 % 64:=rfl;rw[e];refine xj ?_;constructor
 .rintro ⟨a,b,c⟩;refine⟨a,fun k _ _=>?_,c,by unfold okR aSi;simp;omega⟩;have:k=1:=by omega
  subst this;exact b
 rintro ⟨a,b,c,_⟩;exact⟨a,b 1 (by omega) (by omega),c⟩
def aUd(t:gB)(h:xC t 0 / 16=14):MZ t=qQ t 3 (xC t 0 % 16) 2048:=by
 rw[aFo t h,qQ];have e:uU t (xC t 0 % 16) (3-1)=(xC t 0 % 16*64+xC t 1 % 64)*64+xC t 2 % 64:=rfl;rw[e];refine xj ?_;constructor
 .rintro ⟨b,a,c,d,f⟩;refine⟨b,fun k _ _=>?_,d,f⟩;have:k=1\/k=2:=by omega
  rcases this with rfl|rfl;exact a;exact c
 rintro ⟨b,a,c,d⟩;exact⟨b,a 1 (by omega) (by omega),a 2 (by omega) (by omega),c,d⟩
def aUe(t:gB)(h:xC t 0 / 8=30):MZ t=qQ t 4 (xC t 0 % 8) 65536:=by
 rw[aJy t h,qQ];have e:uU t (xC t 0 % 8) (4-1)=((xC t 0 % 8*64+xC t 1 % 64)*64+xC t 2 % 64)*64+xC t 3 % 64:=rfl;rw[e];refine xj ?_;constructor
 .rintro ⟨b,a,c,d,f,g⟩;refine⟨b,fun k _ _=>?_,f,g⟩;have:k=1\/k=2\/k=3:=by omega
  rcases this with rfl|rfl|rfl;exact a;exact c;exact d
 rintro ⟨b,a,c,d⟩;exact⟨b,a 1 (by omega) (by omega),a 2 (by omega) (by omega),a 3 (by omega) (by omega),c,d⟩
def ku(t:gB)(v:Nat):∀j,uU t v j<(v+1)*64 ^ j
 |0=>by simp[uU]
 |j+1=>by
  have:=ku t v j;rw[uU,Od,<-Nat.mul_assoc];omega
def ig(t:gB)(w:eA)(Q:0<t.size)(W:t.size<=maxLen):
 dI 156 #[nA t] w (uA #[lA mA ((MZ t).1:Nat),lA mA ((MZ t).2:Nat)]):=by
 unfold maxLen at W;have hU:t[0].toNat<256:=t[0].toNat_lt;have a:xA _:=iW t 0 Q;by_cases p:t[0].toNat<128
 .have E:xA (MZ t=(t[0].toNat,1)):=by show _=_;rw[a.o];exact aOk t (by rw[<-a.o];exact p)
  rw[E.o];go_enter func156,ntmps156;go_wp2;go_ret2;exact⟨rfl,rfl⟩
 have c:(((t[0].toNat:Int) / 32==6)=dA/\MZ t=qQ t 2 (t[0].toNat % 32) 128)\/((t[0].toNat:Int) / 32==6)=cA/\((((t[0].toNat:Int) / 16==14)=dA/\MZ t=qQ t 3 (t[0].toNat % 16) 2048)\/((t[0].toNat:Int) / 16==14)=cA/\((((t[0].toNat:Int) / 8==30)=dA/\MZ t=qQ t 4 (t[0].toNat % 8) 65536)\/((t[0].toNat:Int) / 8==30)=cA/\MZ t=(0,0))):=by
  by_cases z:t[0].toNat / 32=6
  .exact Ca ⟨by simp;omega,by rw[a.o];exact aUc t (by rw[<-a.o];exact z)⟩
  refine La ⟨by simp;omega,?_⟩;by_cases s:t[0].toNat / 16=14
  .exact Ca ⟨by simp;omega,by rw[a.o];exact aUd t (by rw[<-a.o];exact s)⟩
  refine La ⟨by simp;omega,?_⟩;by_cases u:t[0].toNat / 8=30
  .exact Ca ⟨by simp;omega,by rw[a.o];exact aUe t (by rw[<-a.o];exact u)⟩
  exact La ⟨by simp;omega,by rw[a.o]at p z s u;exact aJz t (by omega) z s u⟩
 have g:=yA c;clear c;go_enter func156,ntmps156;go_upto_block 0 with fail;go_cut [5,6,7] (fun X G sl Z=>∃n v d:Nat,X=lA mA n/\G=lA mA v/\sl=lA mA d/\2<=n/\n<=4/\(v+1)*64 ^ (n-1)<=8388608/\MZ t=qQ t n v d/\d<=65536/\Z=w)
 case first=>
  rcases g.o with⟨N,E⟩|⟨N,⟨O,E⟩|⟨O,⟨P,E⟩|⟨P,E⟩⟩⟩
  all_goals
   have E:=yA E;clear g
  .go_wp2;go_meet;exact⟨2,t[0].toNat % 32,128,rfl,by go_num,rfl,by omega,by omega,by omega,E.o,by omega,rfl⟩
  .go_wp2;go_meet;exact⟨3,t[0].toNat % 16,2048,rfl,by go_num,rfl,by omega,by omega,by omega,E.o,by omega,rfl⟩
  .go_wp2;go_meet;exact⟨4,t[0].toNat % 8,65536,rfl,by go_num,rfl,by omega,by omega,by omega,E.o,by omega,rfl⟩
  go_wp2;go_ret2;exact⟨dL (by simp[E.o]) (by simp[E.o]),rfl⟩
 clear g;obtain⟨n,v,d,rfl,rfl,rfl,T,U,L,H,S,rfl⟩:=hcut;have E:=yA H;have o:=yA L;clear H L;by_cases hz:t.size<n
 .have b:xA (MZ t=(0,0)):=by show _=_;rw[E.o,qQ,Ja (fun h=>by have:=h.1;omega)]
  go_wp2;go_ret2;exact⟨dL (by simp[b.o]) (by simp[b.o]),rfl⟩
 go_wp2;go_loop [6,8] (fun G i=>∃j V:Nat,1<=j/\j<=n/\i=lA mA j/\G=lA mA V/\V<8388608/\xA (V=uU t v (j-1)/\∀k,k<j->1<=k->xC t k / 64=2)) (fun _ i=>n-(intOf i).toNat)
 case atStart=>exact⟨1,v,by omega,by omega,rfl,rfl,by have p:=o.o;have s:=Nat.le_mul_of_pos_right (v+1) (show 0<64 ^ (n-1) from Zf (by omega));omega,rfl,fun k K h=>absurd h (by omega)⟩
 case round=>
  obtain⟨j,V,B,hj,rfl,rfl,hV,q⟩:=hrel;by_cases F:j<n
  .have C:j<t.size:=by omega
   have R:t[j].toNat<256:=t[j].toNat_lt;have x:xA _:=iW t j C;by_cases J:t[j].toNat / 64=2
   .have A:((t[j].toNat:Int) / 64 != 2)=cA:=by simp;omega
    have I:xA (uU t v j=V*64+t[j].toNat % 64):=by
     show _=_;obtain⟨m,rfl⟩:∃m,j=m+1:=⟨j-1,by omega⟩
     rw[uU,x.o,q.o.1];rfl
    go_wp2;refine⟨⟨j+1,V*64+t[j].toNat % 64,by omega,by omega,by go_num,by go_num,?_,I.o.symm,?_⟩,by simp[intOf];omega⟩
    .have p:=ku t v j;rw[I.o]at p;have u:(v+1)*64 ^ j<=(v+1)*64 ^ (n-1):=Hf (Ia _) (Sc (by omega) (by omega));have:=o.o;omega
    intro k K D;by_cases e:k=j
    .subst e;rw[<-x.o];exact J
    exact q.o.2 k (by omega) D
   have A:((t[j].toNat:Int) / 64 != 2)=dA:=by simp;omega
   have b:xA (MZ t=(0,0)):=by show _=_;rw[E.o,qQ,Ja (fun h=>J (by rw[x.o];exact h.2.1 j F B))]
   go_wp2;go_ret2;exact⟨dL (by simp[b.o]) (by simp[b.o]),rfl⟩
  have y:xA (j=n):=by show _=_;omega
  have M:xA (uU t v (n-1)=V):=by show _=_;rw[<-y.o];exact q.o.1.symm
  have c:(V<d\/¬V<d/\1114111<V\/¬V<d/\¬1114111<V/\wB (V:Int) 55296 57343=dA)/\MZ t=(0,0)\/¬V<d/\¬1114111<V/\wB (V:Int) 55296 57343=cA/\MZ t=(V,n):=by
   rw[E.o,qQ,M.o];by_cases f:V<d
   .exact Ca ⟨Ca f,Ja (fun h=>by have:=h.2.2.1;omega)⟩
   by_cases l:1114111<V
   .exact Ca ⟨La (Ca ⟨f,l⟩),Ja (fun h=>by have:=(gk h.2.2.2).1;omega)⟩
   by_cases r:55296<=V/\V<=57343
   .exact Ca ⟨La (La ⟨f,l,by simp[wB];omega⟩),Ja (fun h=>(gk h.2.2.2).2 r)⟩
   exact La ⟨f,l,by simp[wB];omega,Ma ⟨by omega,fun k K=>q.o.2 k (by have:=y.o;omega),by omega,aSh ⟨by omega,r⟩⟩⟩
  clear y;rcases c with⟨f|⟨f,l⟩|⟨f,l,r⟩,b⟩|⟨f,l,r,b⟩
  all_goals
   have b:=yA b;go_wp2_with(go_at_call 48;refine lK (bE (by assumption) _) ?_);go_ret2;exact⟨dL (by simp[b.o]) (by simp[b.o]),rfl⟩
def tZ(x y:gB):Int:=if Op.bytesLess x.toList y.toList=dA then -1 else if (x.toList==y.toList)=dA then 0 else 1
def KY(s:gB)(w:eA):dI 243 #[nA s] w (pA cA):=by
 go_enter func243,ntmps243;go_wp2;go_ret;exact⟨rfl,rfl⟩
def MG(x y:gB)(w:eA):dI 210 #[nA x,nA y] w (lA mA (tZ x y)):=by
 by_cases b:Op.bytesLess x.toList y.toList=dA
 .have E:xA (tZ x y = -1):=by show _=_;simp[tZ,b]
  go_enter func210,ntmps210;go_wp2_with(first|(go_at_call 243;apply aC (KY _ _);rintro c rfl));go_ret;exact⟨fD E.o.symm,rfl⟩
 have a:Op.bytesLess x.toList y.toList=cA:=by simpa using b
 by_cases d:(x.toList==y.toList)=dA
 .have E:xA (tZ x y=0):=by show _=_;simp[tZ,a,d]
  clear b;go_enter func210,ntmps210;go_wp2_with(first|(go_at_call 243;apply aC (KY _ _);rintro c rfl));go_ret;exact⟨fD E.o.symm,rfl⟩
 have f:(x.toList==y.toList)=cA:=by simpa using d
 have E:xA (tZ x y=1):=by show _=_;simp only[tZ,a,f];rfl
 clear b d;go_enter func210,ntmps210;go_wp2_with(first|(go_at_call 243;apply aC (KY _ _);rintro c rfl));go_ret;exact⟨fD E.o.symm,rfl⟩
def VF{P:Program}{o:Oper}{a:Act}{w:eA}{c:Act->Prop}(h:o.quiet P a (fun j=>∃_:Unit,j=w) c):o.still P a w c:=by
 obtain⟨v,i,d⟩:=h;have b:=i w ⟨(),rfl⟩;unfold Oper.quietAt at b;unfold Oper.still;generalize (execOp a.eval o).run P w=r at b;unfold Oper.quietUpon at b;unfold Oper.stillUpon;split at b;obtain ⟨rfl,rfl⟩:=b;exact⟨rfl,d⟩;obtain ⟨rfl,rfl⟩:=b;exact⟨rfl,d⟩;obtain ⟨rfl,f⟩:=b;exact⟨rfl,v,f.mono fun e k ⟨g,_,hw⟩=>⟨g,hw⟩,d⟩;exact b.elim
def uQ{P:Program}{c:Array Oper}{w:eA}{Q:Act->Prop}:∀(l:List Oper)(a:Act),wpQuiet P c (fun f=>∃_:Unit,f=w) Q l a->wpStill P c w Q l a
 |[],a,h=>h
 |o::b,a,h=>by
  unfold wpQuiet at h;unfold wpStill;split
  .rename_i hw;rw[Ma hw]at h;exact VF (Oper.quiet_mono (fun d e=>uQ b d e) h)
  rename_i hw;rw[Ja hw]at h;exact uQ b _ h
def pR{P:Program}{id:Nat}{Q:Exit->Act->eA->Prop}{a:Act}{w:eA}{l:List Oper}(n:Nat)(d:P.follows .mixedOrders=dA)(c:Region.lexTailB .any l.toArray n=dA)
(h:wpQuiet P l.toArray (fun e=>∃_:Unit,e=w.drew) (fun b=>wpList P l.toArray Q (l.drop n) b w.drew) (l.take n) a):(Code.region id l.toArray dA).wp P Q a w:=
 wp_region_still_tail n d c (uQ _ _ h)
def aCk{x:gB}:x.toList.isEmpty=dA ↔ x=kA:=by
 rw[List.isEmpty_iff];constructor;intro h;exact toList_inj (by rw[h,ByteArray.toList_eq];rfl);intro h;rw[h,ByteArray.toList_eq];rfl
def BE{x:gB}:x.toList.isEmpty=cA ↔ x≠kA:=by rw[<-Bool.not_eq_true,aCk]
def EK(a c:gB)(d:Int)(t:gB)(w:eA):qD 293 #[.agg #[nA a,nA c,lA mA d],nA t] w (lA mA (tZ a t)):=by
 go_enter func293,ntmps293;go_wp2_with(first|(go_at_call 210;apply aC (MG _ _ _);rintro b rfl));go_ret;exact⟨rfl,vB⟩
section
open Go.Extern.Stop Go.Stop Go.Extern
def aJs(v:iA)(w:eA):(Extern.ReflectliteType.typeOf #[.iface 200 v]).run prog w=.ok (.iface 360 (.agg #[.pointer (bA ⟨8,200,aA⟩)])) w:=by kernel_rfl
def ez(w : World) : ((Extern.ReflectliteType.method fun t => do Extern.Rtype.noPackHeld "Comparable" t; pure (.bool (<- typeInfo t).comparable)) #[.agg #[.pointer (some ⟨8, 200, none⟩)]]).run prog w = .ok (.bool true) w := by kernel_rfl
def QP(w:eA):(callFunc 363 #[.agg #[.pointer (bA ⟨8,200,aA⟩)]]).run prog w=.ok (.value (pA dA)) w:=by
 rw [@run_callFunc_extern prog 363 _ (Extern.ReflectliteType.method fun t => do Extern.Rtype.noPackHeld "Comparable" t; pure (.bool (<- typeInfo t).comparable)) func363 (by kernel_rfl) (by kernel_rfl) (by kernel_rfl) (by kernel_rfl), ez]
 rfl
def vg(v:iA)(w:eA):(callFunc 265 #[.iface 200 v]).run prog w=.ok (.value (.iface 360 (.agg #[.pointer (bA ⟨8,200,aA⟩)]))) w:=by
 rw[@run_callFunc_extern prog 265 _ Extern.ReflectliteType.typeOf func265 (by kernel_rfl) (by kernel_rfl) (by kernel_rfl) (by kernel_rfl),aJs];rfl
def EW(v : Value)(w : World) : (Go.method 543 360 v "Comparable").run prog w = .ok (363, v) w := by kernel_rfl
def aRq:(prog.info? 200).map (·.comparable)=bA dA:=by kernel_rfl
def aUw(v:iA)(a:jA)(w:eA):(Instr.typeAssert (.iface 200 v) a 362 dA).run prog w=.ok (uA #[.nilIface,pA cA]) w:=run_typeAssert_lacksB underlying362 (by kernel_rfl) (by kernel_rfl) v a w
def aKz(v:iA)(a:jA)(w:eA):(Instr.typeAssert (.iface 200 v) a 365 dA).run prog w=.ok (uA #[.nilIface,pA cA]) w:=run_typeAssert_lacksB underlying365 (by kernel_rfl) (by kernel_rfl) v a w
def aGk(v:iA)(a:jA)(w:eA):(Instr.typeAssert (.iface 200 v) a 366 dA).run prog w=.ok (uA #[.nilIface,pA cA]) w:=run_typeAssert_lacksB underlying366 (by kernel_rfl) (by kernel_rfl) v a w
def JH{P:Program}(w:eA){t c:jA}{l:Array (String×jA)}(a b:gB)
(j:P.underlying t=bA (.interface l))(f:(P.info? c).map (·.comparable)=bA dA)(k:P.underlying c=bA .string):
 (binOp .eql t (.iface c (nA a)) (.iface c (nA b))).run P w=.ok (pA (a==b)) w:=by
 obtain⟨i,g,e⟩:=Wb.1 f;have h:∀d:Nat,(Op.equalIn (d+2) t (.iface c (nA a)) (.iface c (nA b))).run P w=.ok (a==b) w:=fun d=>by
  simp[Op.equalIn,run_underlying j,run_underlying k,typeInfo,g,e]
 simp only[binOp];simp[Op.equal,Op.maxDepth,h 9998]
def kF(a b:gB)(r:Bool)(c:(a==b)=r)(w:eA):
 dI 226 #[.iface 200 (nA a),.iface 200 (nA b)] w (pA r):=by
 have j:=vg;have g:=QP;have h:=EW;have i:=aUw;have k:=aKz;have l:=aGk;have d:(binOp .eql 249 (.iface 200 (nA a)) (.iface 200 (nA b))).run prog w=.ok (pA r) w:=by
  rw[JH w a b underlying249 aRq underlying200,c]
 clear c;cases r
 .go_enter func226,ntmps226;go_wp2;refine wp_loop_rounds 1 ?_;rw[rounds_succ];go_wp2;go_ret;exact⟨rfl,rfl⟩
 go_enter func226,ntmps226;go_wp2;refine wp_loop_rounds 1 ?_;rw[rounds_succ];go_wp2;go_ret;exact⟨rfl,rfl⟩
end
def aMl:gB:=⟨#[116,104,101,32,100,105,115,107,32,105,115,32,100,111,119,110]⟩
def jb:gB:=⟨#[116,104,101,32,111,112,101,114,97,116,105,111,110,32,102,97,105,108,101,100]⟩
def aMm:gB:=⟨#[116,104,101,32,100,105,115,107,32,105,115,32,102,117,108,108]⟩
def VK:gB:=⟨#[116,104,101,32,102,105,108,101,32,105,115,32,109,105,115,115,105,110,103]⟩
def ja:gB:=⟨#[116,104,101,32,102,105,108,101,32,101,120,105,115,116,115]⟩
def aTc:gB:=⟨#[116,104,101,32,111,112,101,114,97,116,105,111,110,32,105,115,32,105,109,112,114,111,112,101,114]⟩
def gH(a:Nat):iA:=match a with
 |0=>.nilIface
 |1=>.iface 200 (nA aMl)
 |2=>.iface 200 (nA jb)
 |3=>.iface 200 (nA aMm)
 |4=>.iface 200 (nA VK)
 |5=>.iface 200 (nA ja)
 |_=>.iface 200 (nA aTc)
theorem aNu(w:eA):dI 187 #[.nilIface] w (lA mA 0):=by
 go_enter func187,ntmps187;go_wp2;go_ret;exact⟨rfl,rfl⟩
theorem aDo(w:eA):dI 187 #[.iface 200 (nA aMl)] w (lA mA 1):=by
 go_enter func187,ntmps187;go_wp2_with fail;refine aC (kF _ _ dA (by kernel_rfl) _) ?_;rintro a rfl;go_wp2;go_ret;exact⟨rfl,rfl⟩
theorem lv(w:eA):dI 187 #[.iface 200 (nA jb)] w (lA mA 2):=by
 go_enter func187,ntmps187;go_wp2_with fail;refine aC (kF _ _ cA (by kernel_rfl) _) ?_;rintro a rfl;go_wp2_with fail;refine aC (kF _ _ dA (by kernel_rfl) _) ?_;rintro a rfl;go_wp2;go_ret;exact⟨rfl,rfl⟩
theorem aDp(w:eA):dI 187 #[.iface 200 (nA aMm)] w (lA mA 3):=by
 go_enter func187,ntmps187;go_wp2_with fail;refine aC (kF _ _ cA (by kernel_rfl) _) ?_;rintro a rfl;go_wp2_with fail;refine aC (kF _ _ cA (by kernel_rfl) _) ?_;rintro a rfl;go_wp2_with fail;refine aC (kF _ _ dA (by kernel_rfl) _) ?_;rintro a rfl;go_wp2;go_ret;exact⟨rfl,rfl⟩
theorem dc(w:eA):dI 187 #[.iface 200 (nA VK)] w (lA mA 4):=by
 go_enter func187,ntmps187;go_wp2_with fail;refine aC (kF _ _ cA (by kernel_rfl) _) ?_;rintro a rfl;go_wp2_with fail;refine aC (kF _ _ cA (by kernel_rfl) _) ?_;rintro a rfl;go_wp2_with fail;refine aC (kF _ _ cA (by kernel_rfl) _) ?_;rintro a rfl;go_wp2_with fail;refine aC (kF _ _ dA (by kernel_rfl) _) ?_;rintro a rfl;go_wp2;go_ret;exact⟨rfl,rfl⟩
theorem lu(w:eA):dI 187 #[.iface 200 (nA ja)] w (lA mA 5):=by
 go_enter func187,ntmps187;go_wp2_with fail;refine aC (kF _ _ cA (by kernel_rfl) _) ?_;rintro a rfl;go_wp2_with fail;refine aC (kF _ _ cA (by kernel_rfl) _) ?_;rintro a rfl;go_wp2_with fail;refine aC (kF _ _ cA (by kernel_rfl) _) ?_;rintro a rfl;go_wp2_with fail;refine aC (kF _ _ cA (by kernel_rfl) _) ?_;rintro a rfl;go_wp2_with fail;refine aC (kF _ _ dA (by kernel_rfl) _) ?_;rintro a rfl;go_wp2;go_ret;exact⟨rfl,rfl⟩
theorem aIt(w:eA):dI 187 #[.iface 200 (nA aTc)] w (lA mA 6):=by
 go_enter func187,ntmps187;go_wp2_with fail;refine aC (kF _ _ cA (by kernel_rfl) _) ?_;rintro a rfl;go_wp2_with fail;refine aC (kF _ _ cA (by kernel_rfl) _) ?_;rintro a rfl;go_wp2_with fail;refine aC (kF _ _ cA (by kernel_rfl) _) ?_;rintro a rfl;go_wp2_with fail;refine aC (kF _ _ cA (by kernel_rfl) _) ?_;rintro a rfl;go_wp2_with fail;refine aC (kF _ _ cA (by kernel_rfl) _) ?_;rintro a rfl;go_wp2;go_ret;exact⟨rfl,rfl⟩
def lx(a:Nat)(h:a<=6)(w:eA):dI 187 #[gH a] w (lA mA a):=by grind [gH,aNu,aDo,lv,aDp,dc,lu,aIt]
def oN(w:eA)(B:Nat)(v:iA)(s:gB):Prop:=
 ∃g a b c,v=oA (bA ⟨g,0,aA⟩) s.size a/\B<=g/\w.heap[g]?=bA (.cells b 5 c)/\(c.2=0\/a<=c.1)/\s.size<=a/\a<=maxLen/\b.size=a/\b.toList.take s.size=Lib.strCells s
def oN.z{w d:eA}{B:Nat}{v:iA}{s:gB}(h:oN w B v s)(k:kB w d):oN d B v s:=by
 obtain⟨g,a,b,e,f,i,c,j⟩:=h;exact⟨g,a,b,e,f,i,(k.block g (zA c)).trans c,j⟩
def oN.mono{w:eA}{B B':Nat}{v:iA}{s:gB}(h:oN w B v s)(i:B'<=B):oN w B' v s:=by
 obtain⟨g,a,b,c,d,e,f⟩:=h;exact⟨g,a,b,c,d,Ua i e,f⟩
def oN.lt{w:eA}{B:Nat}{v:iA}{s:gB}(h:oN w B v s):∃g,v.ownBlock=bA g/\B<=g/\g<w.1.size:=by
 obtain⟨g,a,b,e,rfl,c,d,f⟩:=h;exact⟨g,rfl,c,zA d⟩
def eZ(a b:gB):Lib.strCells (a++b)=Lib.strCells a++Lib.strCells b:=by simp[Lib.strCells]
theorem aAd(P:Program)(g o:Nat)(t:TypeId)(b:Nat×Nat)(d:List Value):∀(i:Nat)(a:Array Value)(w:World),w.heap[g]?=some (.cells a t b)->(b.2=0\/a.size<=b.1)->o+i+d.length<=a.size->(∀v∈d,v.oneCell'=true)->
 (storeCells ⟨g,o,none⟩ d i).run P w=.ok () (w.setRow g (a.toList.take (o+i)++d++a.toList.drop (o+i+d.length)).toArray):=by
 induction d with
 |nil=>
  intro i a w c _ _ _;rw[storeCells,Cd,List.length_nil,Bg,Za,Array.toArray_toList,setRow_self w g a t b c];rfl
 |cons v q s=>
  intro i a w c f n k;rw[Zb]at n;have l:(⟨g,o,none⟩:Addr).add i=⟨g,o+i,none⟩:=by unfold Addr.add;split<;>simp_all
  have m:w.cell? ⟨g,o+i,none⟩=some (a[o+i]'(by omega)):=by rw[cell_of_row w g _ a t b c];exact Qc (by omega)
  have j:w.frozen? ⟨g,o+i,none⟩=false:=by
   unfold World.frozen?;rw[c];rcases f with f|f
   .rw[Gg];exact La (Ub (by show ¬o+i<b.2;omega))
   .rw[Gg];exact Ca (Ub (by show ¬b.1<=o+i;omega))
  have p:(store ((⟨g,o,none⟩:Addr).add i) v).run P w=.ok () (w.setRow g (a.setIfInBounds (o+i) v)):=by
   rw[l,run_store P w _ v _ (k v (Kc ..)),m];simp[j,setCell_eq_setRow w g (o+i) a t b v c]
  have h:=s (i+1) (a.setIfInBounds (o+i) v) (w.setRow g (a.setIfInBounds (o+i) v)) (setRow_heap w g a _ t _ c) (by simpa using f) (by simp;omega) (fun x r=>k x (Sb _ r));rw[storeCells,Sem.run_bind,p,Result.andThen_ok,h,setRow_setRow];congr 3;have e:=list_seg_step a.toList (o+i) v q (by simp;omega);simpa[Jf,Nat.add_assoc]using e
def xV(w:eA)(B:Nat)(v:iA)(s x:gB)(I:jA)(m:oN w B v s)(J:B<=w.1.size)(S:s.size+x.size<=140737488355328):
 ∃r G,(Builtin.append_ #[124,9] I #[v,nA x]).run prog w=.ok r G/\oN G B r (s++x)/\w.grownBy G v.ownBlock/\(r.ownBlock=v.ownBlock\/r.ownBlock=bA w.1.size):=by
 obtain⟨R,o,E,p,F⟩:=eo;obtain⟨g,a,b,H,rfl,y,d,i,M,z,A,l⟩:=m;have c:(s++x).size=s.size+x.size:=Ka;by_cases h:s.size+x.size<=a
 .have L:=Lib.run_firstCells_string (P:=prog) w 1 x;have n:=aAd prog g s.size 5 H (Lib.strCells x) 0 b w d (by rw[A];exact i) (by rw[Lib.strCells_length];omega) (Lib.strCells_oneCell x);simp only[Bg,Lib.strCells_length]at n;refine⟨oA (bA ⟨g,0,aA⟩) (s.size+x.size) a,w.setRow g (b.toList.take s.size++Lib.strCells x++b.toList.drop (s.size+x.size)).toArray,?_,?_,⟨rfl,rfl,rfl,by simp,fun k _ C=>setRow_other w g k _ (fun e=>C (by simp[iA.ownBlock,e]))⟩,Ca rfl⟩
  .simp[Builtin.append_,run_underlying underlying124,run_underlying underlying9,sizeOf,typeInfo,o,p,Builtin.lenOf,h,L,Addr.add_lit,n]
  refine ⟨g,a,_,H,by rw[c],y,setRow_heap w g b _ _ _ d,i,by omega,z,?_,?_⟩;simp only[List.size_toArray,Kb,Hb,Rc,Qg,Lib.strCells_length];omega;rw[l,c,eZ];have D:(Lib.strCells s++Lib.strCells x).length=s.size+x.size:=by rw[Kb,Lib.strCells_length,Lib.strCells_length]
  rw[<-D];exact List.take_left
 have f:∀j u,(Lib.strCells s)[j]?=bA u->w.cell? ((⟨g,0,aA⟩:Addr).add j)=bA u:=fun j u q=>by
  have K:(⟨g,0,aA⟩:Addr).add j=⟨g,j,aA⟩:=by unfold Addr.add;split<;>simp_all
  rw[K,cell_of_row w g j b _ _ d];rw[<-l,Ye]at q;split at q;simpa using q
  cases q
 have Q:=Lib.run_append_grow_string (P:=prog) w 124 9 I 5 R (.int .u8 0) underlying124 underlying9 o E ⟨g,0,aA⟩ s.size a (Lib.strCells s) (by rw[p,Lib.strCells_length,Nat.mul_one]) f x (by omega) (by omega) (by rw[F];exact growslice_fits (by omega) (by omega));have N:=grownCap_ge w (s.size+x.size) a 5;have t:=grownCap_le_maxLen w (s.size+x.size) a 5 (by unfold maxLen;omega);refine⟨_,_,Q,⟨w.1.size,_,_,(0,0),by rw[c],J,heap_alloc_new w.drew _,Ca rfl,by omega,t,?_,?_⟩,⟨rfl,rfl,rfl,by simp,fun k C _=>heap_alloc_old w.drew _ C⟩,La rfl⟩;have O:(iA.int IntKind.u8 0).cells.size=1:=rfl;simp only[Array.size_append,List.size_toArray,size_zeroCells,O,Lib.strCells_length];omega;rw[c,eZ];have D:(Lib.strCells s++Lib.strCells x).length=s.size+x.size:=by rw[Kb,Lib.strCells_length,Lib.strCells_length]
 simp only[Array.toList_append,Nd];rw[<-Nd,<-D];exact List.take_left
def gw(w:eA)(B:Nat)(v:iA)(s x:gB)(d:jA)(a:oN w B v s)(h:B<=w.1.size)(i:s.size+x.size<=140737488355328):
 ∃c b,(Builtin.append_ #[124,9] d #[v,nA x]).run prog w=.ok c b/\oN b B c (s++x)/\w.grownBy b v.ownBlock:=by
 obtain⟨c,b,e,f,g,_⟩:=xV w B v s x d a h i;exact⟨c,b,e,f,g⟩
def WZ(w:eA){d:Array Oper}{o:Oper}{a:Act}{K:Act->eA->Prop}{Q:Exit->Act->eA->Prop}{E:Prop}(i:o.guard=aA)(sl x:Operand)
(A:o.op=.call { callee:=.builtin .append,args:=#[sl,x],argTypes:=#[124,9] })
(B:Nat)(v:iA)(s t:gB)(D:a.eval sl=v)(b:oN w B v s)(F:a.eval x=nA t)(n:B<=w.1.size)(G:s.size+t.size<=140737488355328)
(h:∀f c,oN c B f (s++t)->fA B w c->(∀k,k<w.1.size->v.ownBlock≠bA k->c.heap[k]?=w.heap[k]?)->K (a.put o.dst f) c):
 if Region.wanted o (yielded d a.tmps)=dA then Oper.wp prog o a w K Q else E:=by
 have hw:Region.wanted o (yielded d a.tmps)=dA:=by simp[Region.wanted,i]
 rw[Ma hw];obtain⟨f,c,C,r,m⟩:=gw w B v s t o.type b n G;have j:=b.lt;have u:=h f c r ((fA.refl B w).grown m n (fun q p=>by obtain⟨g,e,y,_⟩:=j;rw[e]at p;cases p;exact y)) (fun k z l=>m.block k z (fun e=>l e.symm));unfold Oper.wp execOp;simp only[A,resolve,invoke,builtin,Sem.run_bind,Sem.run_pure,Result.andThen_ok,Hg,Fc,Ag,D,F,C];exact u
def qP(w:eA){f:Array Oper}{o:Oper}{a:Act}{K:Act->eA->Prop}{Q:Exit->Act->eA->Prop}{E:Prop}(j:o.guard=aA)(sl x:Operand)
(C:o.op=.call { callee:=.builtin .append,args:=#[sl,x],argTypes:=#[124,9] })
(B:Nat)(v:iA)(s t:gB)(F:a.eval sl=v)(b:oN w B v s)(G:a.eval x=nA t)(n:B<=w.1.size)(H:s.size+t.size<=140737488355328)
(h:∀d c,oN c B d (s++t)->fA B w c->(∀k,k<w.1.size->v.ownBlock≠bA k->c.heap[k]?=w.heap[k]?)->(d.ownBlock=v.ownBlock\/d.ownBlock=bA w.1.size)->w.1.size<=c.1.size->K (a.put o.dst d) c):
 if Region.wanted o (yielded f a.tmps)=dA then Oper.wp prog o a w K Q else E:=by
 have hw:Region.wanted o (yielded f a.tmps)=dA:=by simp[Region.wanted,j]
 rw[Ma hw];obtain⟨d,c,D,r,i,u⟩:=xV w B v s t o.type b n H;have l:=b.lt;have y:=h d c r ((fA.refl B w).grown i n (fun q p=>by obtain⟨g,e,z,_⟩:=l;rw[e]at p;cases p;exact z)) (fun k A m=>i.block k A (fun e=>m e.symm)) u i.size;unfold Oper.wp execOp;simp only[C,resolve,invoke,builtin,Sem.run_bind,Sem.run_pure,Result.andThen_ok,Hg,Fc,Ag,F,G,D];exact y
def uK(w:eA){i:Array Oper}{c:List Oper}{o:Oper}{a:Act}{Q:Exit->Act->eA->Prop}(l:o.guard=aA)(sl x:Operand)
(E:o.op=.call { callee:=.builtin .append,args:=#[sl,x],argTypes:=#[124,9] })
(B:Nat)(v:iA)(s t:gB)(G:a.eval sl=v)(b:oN w B v s)(H:a.eval x=nA t)(p:B<=w.1.size)(I:s.size+t.size<=140737488355328)
(h:∀f d,oN d B f (s++t)->fA B w d->(∀k,k<w.1.size->v.ownBlock≠bA k->d.heap[k]?=w.heap[k]?)->(f.ownBlock=v.ownBlock\/f.ownBlock=bA w.1.size)->w.1.size<=d.1.size->wpList prog i Q c (a.put o.dst f) d):
 wpList prog i Q (o::c) a w:=by
 refine wpList_plain l fun K z=>?_;obtain⟨f,d,F,u,j,y⟩:=xV w B v s t o.type b p I;have m:=b.lt;have C:=h f d u ((fA.refl B w).grown j p (fun q r=>by obtain⟨g,e,A,_⟩:=m;rw[e]at r;cases r;exact A)) (fun k D n=>j.block k D (fun e=>n e.symm)) y j.size;unfold Oper.wp execOp;simp only[E,resolve,invoke,builtin,Sem.run_bind,Sem.run_pure,Result.andThen_ok,Hg,Fc,Ag,G,H,F];exact z _ _ C
def dd(w:eA)(s:gB)(f:s.size<=140737488355328):∃v d,(convert 9 124 (nA s)).run prog w=.ok v d/\oN d w.1.size v s/\kB w d:=by
 refine⟨_,_,run_bytes_of_string w _ _ 5 s underlying9 underlying124 underlying5,?_,(fA.refl _ w).drew.alloc (by simp) _⟩;have c:=grownCap_ge w s.size 0 5;have b:=grownCap_le_maxLen w s.size 0 5 (by unfold maxLen;omega);have a:(bytesRow s (grownCap w s.size 0 5)).size=grownCap w s.size 0 5:=by
  unfold bytesRow;rw[Array.size_append,Array.size_map,Array.size_replicate];show s.size+_=_;omega
 refine⟨w.1.size,_,_,_,rfl,Ia _,heap_alloc_new w.drew _,La (by rw[a];exact Ia _),c,b,a,?_⟩;have e:=Lib.strCells_length s;unfold bytesRow;rw[Array.toList_append,Array.toList_map];conv=>lhs;arg 1;rw[<-e]
 exact List.take_left
def GO(s:gB)(a:s.size<=140737488355328):∃(V:eA->iA)(N:eA->eA),(∀w,(convert 9 124 (nA s)).run prog w=.ok (V w) (N w))/\∀w,oN (N w) w.1.size (V w) s/\kB w (N w):=
 ⟨fun w=>Classical.choose (dd w s a),fun w=>Classical.choose (Me (dd w s a)),fun w=>(Me (Me (dd w s a))).1,fun w=>(Me (Me (dd w s a))).2⟩
def DX{w:eA}{B:Nat}{v:iA}{s:gB}(h:oN w B v s):(convert 124 9 v).run prog w=.ok (nA s) w:=by
 obtain⟨g,b,a,k,rfl,l,e,m,n,o,p,f⟩:=h;have:=run_convert_bytes_back w 124 9 5 ⟨g,0,aA⟩ b s.data.toList underlying124 underlying5 underlying9 (fun j d=>by
  have i:(⟨g,0,aA⟩:Addr).add j=⟨g,j,aA⟩:=by unfold Addr.add;split<;>simp_all
  rw[i,cell_of_row w g j a _ _ e,<-Yd];have c:j<s.size:=by simpa using d
  have:(a.toList.take s.size)[j]?=(Lib.strCells s)[j]?:=by rw[f]
  rw[Jb c]at this;rw[this,Lib.strCells,Se,Va d];rfl)
 simpa using this
