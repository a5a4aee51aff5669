import Derived.Test.YtjpeimianeiegaaGreatDoorJ19
set_option maxRecDepth 100000
set_option maxHeartbeats 1000000
namespace Go.Proofs.YtjpeimianeiegaaGreatDoor
open Go.RowKit Tryz
theorem UJ {a b:ByteArray} (h:a.data.toList=b.data.toList):a=b:=by
 obtain⟨⟨l⟩⟩:=a;obtain⟨⟨m⟩⟩:=b;simp only at h;rw[h]
theorem bV (a b:ByteArray):(a++b).data.toList=a.data.toList++b.data.toList:=by simp
theorem oL (d:ByteArray) (p n:Nat):(d.extract p (p+n)).data.toList=zC d p n:=by
 simp[zC,ByteArray.data_extract,Array.toList_extract]
theorem aNm (d:ByteArray):d.data.toList.length=d.size:=by simp
def sJ (p:ByteArray):ByteArray:=if 1<=p.size/\p.size<=60000 then aB 4 p.size++aB 4 (kH p:Nat)++p else ByteArray.empty
def xB (d:ByteArray):Nat:=mL (zC d 0 4)
def eV (d:ByteArray):ByteArray:=
 if d.size<8 then ByteArray.empty
 else if d.size-8<xB d then ByteArray.empty
 else if sJ (d.extract 8 (8+xB d))=ByteArray.empty\/sJ (d.extract 8 (8+xB d))≠d.extract 0 (8+xB d) then ByteArray.empty
 else d.extract 8 (8+xB d)
def nH (d:ByteArray):Prop:=8<=d.size/\1<=xB d/\xB d<=60000/\xB d<=d.size-8/\mL (zC d 4 4)=kH (d.extract 8 (8+xB d))
def frD (d:ByteArray):Decidable (nH d):=by unfold nH;infer_instance
def frB (d:ByteArray):Bool:=@decide (nH d) (frD d)
theorem aNf {d:ByteArray} (h:nH d):frB d=true:=@Rb _ (frD d) h
theorem ie {d:ByteArray} (h:¬nH d):frB d=false:=@Mb _ (frD d) h
theorem kU {d:ByteArray} {p n:Nat} (h:p+n<=d.size):(d.extract p (p+n)).size=n:=by rw[Yb];omega
theorem ig {p:ByteArray} (h:1<=p.size/\p.size<=60000):(sJ p).size=8+p.size:=by
 rw[sJ,Ga h,Ia,Ia,bB,bB]
theorem ij {d:ByteArray} (j:8<=d.size) (e:1<=xB d) (f:xB d<=60000) (i:xB d<=d.size-8):
 sJ (d.extract 8 (8+xB d))=d.extract 0 (8+xB d) ↔ mL (zC d 4 4)=kH (d.extract 8 (8+xB d)):=by
 have c:(d.extract 8 (8+xB d)).size=xB d:=kU (by omega);have hw:(d.extract 0 (8+xB d)).data.toList=zC d 0 4++zC d 4 4++(d.extract 8 (8+xB d)).data.toList:=by
  have b:=oL d 0 (8+xB d);rw[Oa]at b;rw[b,oL];simp only[zC,Vc];rw[show 8+xB d=4+(4+xB d) by omega,List.take_add,List.take_add,List.drop_drop];simp
 have g:aB 4 (xB d:Nat)=⟨(zC d 0 4).toArray⟩:=MS _ 4 (kF (by omega));rw[sJ,Ga (by rw[c];exact⟨e,f⟩),c,g];constructor
 ·intro h;have a:=Zc (fun x:ByteArray=>x.data.toList) h;simp only[bV]at a;rw[hw,List.append_left_inj,List.append_right_inj]at a;rw[<-a,aO 4 _ (by have:=YR (d.extract 8 (8+xB d));omega)]
 ·intro h;apply UJ;rw[bV,bV,hw,<-h,MS _ 4 (kF (by omega))]
theorem VE (d:ByteArray):eV d=haveI:=frD d;if nH d then d.extract 8 (8+xB d) else ByteArray.empty:=by
 unfold eV;by_cases i:d.size<8
 ·rw[Ga i,Ca (fun h=>by have:=h.1;omega)]
 ·rw[Ca i];by_cases g:d.size-8<xB d
  ·rw[Ga g,Ca (fun h=>by have:=h.2.2.2.1;omega)]
  ·rw[Ca g];have j:(d.extract 8 (8+xB d)).size=xB d:=kU (by omega);by_cases a:1<=xB d/\xB d<=60000
   ·have f:sJ (d.extract 8 (8+xB d))≠ByteArray.empty:=by
     intro e;have:=ig (p:=d.extract 8 (8+xB d)) (by rw[j];exact a);rw[e,Mg]at this;omega
    by_cases b:mL (zC d 4 4)=kH (d.extract 8 (8+xB d))
    ·have c:=(ij (by omega) a.1 a.2 (by omega)).2 b;rw[Ca (by intro h;rcases h with h|h;exact f h;exact h c),Ga ⟨by omega,a.1,a.2,by omega,b⟩]
    ·have c:¬sJ (d.extract 8 (8+xB d))=d.extract 0 (8+xB d):=fun h=>b ((ij (by omega) a.1 a.2 (by omega)).1 h);rw[Ga (Ea c),Ca (fun h=>b h.2.2.2.2)]
   ·have k:sJ (d.extract 8 (8+xB d))=ByteArray.empty:=by rw[sJ,Ca (by rw[j];exact a)]
    rw[Ga (Ba k),Ca (fun h=>a ⟨h.2.1,h.2.2.1⟩)]
def yK (d:ByteArray):Nat->Nat->List ByteArray×Nat
 |0,p=>([],p)
 |n+1,p=>haveI:=frD (d.extract p d.size);if nH (d.extract p d.size) then
  let q:=(d.extract p d.size).extract 8 (8+xB (d.extract p d.size))
  (q::(yK d n (p+8+q.size)).1,(yK d n (p+8+q.size)).2) else([],p)
def pG (d:ByteArray):List ByteArray×Nat:=yK d (d.size+1) 0
def cY:ByteArray:=⟨#[97,32,115,101,103,109,101,110,116,32,97,104,101,97,100,32,111,102,32,116,104,101,32,108,97,115,116,32,105,115,32,116,111,114,110]⟩
def aDo:ByteArray:=⟨#[116,104,101,32,115,101,103,109,101,110,116,115,32,97,114,101,32,110,111,32,108,111,103]⟩
def cy:ByteArray:=⟨#[116,104,101,32,112,97,121,108,111,97,100,32,104,97,115,32,110,111,32,102,114,97,109,101]⟩
def aPb:ByteArray:=⟨#[116,104,101,32,108,111,103,32,104,97,115,32,110,111,32,115,101,103,109,101,110,116,115,32,108,101,102,116]⟩
def aZ (a:Nat):Value:=match a with
 |20=>.iface 139 (.string cY)
 |21=>.iface 139 (.string aDo)
 |22=>.iface 139 (.string cy)
 |23=>.iface 139 (.string aPb)
 |c=>iG c
theorem EU {P:Program} (w:World) {t a:TypeId} {e:Array (String×TypeId)} (b:ByteArray) (c:P.underlying t=some (.interface e)):
 (binOp .eql t .nilIface (.iface a (.string b))).run P w=.ok (.bool false) w:=by
 have h:∀d:Nat,(Op.equalIn (d+2) t .nilIface (.iface a (.string b))).run P w=.ok false w:=fun d=>by
  simp[Op.equalIn,run_underlying c]
 simp only[binOp];simp[Op.equal,Op.maxDepth,h 9998]
theorem aNx (b:ByteArray) (w:World):
 Calls prog 67 #[.nilIface,.iface 139 (.string b)] w fun e c=>e=.returned (.bool false)/\c=w:=by
 have a:(binOp .eql 79 .nilIface (.iface 139 (.string b))).run prog w=.ok (.bool false) w:=EU w b underlying79;go_enter func67,ntmps67;go_wp2;go_ret;exact⟨rfl,rfl⟩
theorem IF (a:Nat) (h:a<=6) (b:ByteArray) (w:World) (c:(yk==b)=false) (d:(cu==b)=false) (f:(aIt==b)=false) (g:(RP==b)=false) (i:(cn==b)=false) (j:(aPa==b)=false):
 Calls prog 67 #[iG a,.iface 139 (.string b)] w fun e k=>e=.returned (.bool false)/\k=w:=by
 match a,h with
 |0,_=>exact aNx b w
 |1,_=>exact gD _ _ false c w
 |2,_=>exact gD _ _ false d w
 |3,_=>exact gD _ _ false f w
 |4,_=>exact gD _ _ false g w
 |5,_=>exact gD _ _ false i w
 |6,_=>exact gD _ _ false j w
theorem vG (a:Nat) (h:a<=6) (w:World):Calls prog 68 #[iG a] w fun e b=>e=.returned (.int .i64 a)/\b=w:=by
 have c:Hid (∀W,Calls prog 67 #[iG a,.iface 139 (.string cY)] W fun e b=>e=.returned (.bool false)/\b=W):=fun W=>IF a h _ W (by kernel_rfl) (by kernel_rfl) (by kernel_rfl) (by kernel_rfl) (by kernel_rfl) (by kernel_rfl);have d:Hid (∀W,Calls prog 67 #[iG a,.iface 139 (.string aDo)] W fun e b=>e=.returned (.bool false)/\b=W):=fun W=>IF a h _ W (by kernel_rfl) (by kernel_rfl) (by kernel_rfl) (by kernel_rfl) (by kernel_rfl) (by kernel_rfl);have f:Hid (∀W,Calls prog 67 #[iG a,.iface 139 (.string cy)] W fun e b=>e=.returned (.bool false)/\b=W):=fun W=>IF a h _ W (by kernel_rfl) (by kernel_rfl) (by kernel_rfl) (by kernel_rfl) (by kernel_rfl) (by kernel_rfl);have g:Hid (∀W,Calls prog 67 #[iG a,.iface 139 (.string aPb)] W fun e b=>e=.returned (.bool false)/\b=W):=fun W=>IF a h _ W (by kernel_rfl) (by kernel_rfl) (by kernel_rfl) (by kernel_rfl) (by kernel_rfl) (by kernel_rfl);have i:Hid _:=fun W=>aEx a h W;generalize iG a=E at *;go_enter func68,ntmps68;go_wp2_with fail;refine(c.out _).mono ?_;rintro e b ⟨rfl,hw⟩;replace hw:=hw.symm;subst hw;go_wp2_with fail;refine(d.out _).mono ?_;rintro e b ⟨rfl,hw⟩;replace hw:=hw.symm;subst hw;go_wp2_with fail;refine(f.out _).mono ?_;rintro e b ⟨rfl,hw⟩;replace hw:=hw.symm;subst hw;go_wp2_with fail;refine(g.out _).mono ?_;rintro e b ⟨rfl,hw⟩;replace hw:=hw.symm;subst hw;go_wp2_with fail;refine(i.out _).mono ?_;rintro e b ⟨rfl,hw⟩;replace hw:=hw.symm;subst hw;go_wp2;go_ret;exact⟨rfl,rfl⟩
theorem LS (w:World):Calls prog 68 #[.iface 139 (.string cY)] w fun e a=>e=.returned (.int .i64 20)/\a=w:=by
 go_enter func68,ntmps68;go_wp2_with fail;refine(gD _ _ true (by kernel_rfl) _).mono ?_;rintro e a ⟨rfl,rfl⟩;go_wp2;go_ret;exact⟨rfl,rfl⟩
theorem kr (w:World):Calls prog 68 #[.iface 139 (.string aDo)] w fun e a=>e=.returned (.int .i64 21)/\a=w:=by
 go_enter func68,ntmps68;go_wp2_with fail;refine(gD _ _ false (by kernel_rfl) _).mono ?_;rintro e a ⟨rfl,rfl⟩;go_wp2_with fail;refine(gD _ _ true (by kernel_rfl) _).mono ?_;rintro e a ⟨rfl,rfl⟩;go_wp2;go_ret;exact⟨rfl,rfl⟩
theorem QI (w:World):Calls prog 68 #[.iface 139 (.string cy)] w fun e a=>e=.returned (.int .i64 22)/\a=w:=by
 go_enter func68,ntmps68;go_wp2_with fail;refine(gD _ _ false (by kernel_rfl) _).mono ?_;rintro e a ⟨rfl,rfl⟩;go_wp2_with fail;refine(gD _ _ false (by kernel_rfl) _).mono ?_;rintro e a ⟨rfl,rfl⟩;go_wp2_with fail;refine(gD _ _ true (by kernel_rfl) _).mono ?_;rintro e a ⟨rfl,rfl⟩;go_wp2;go_ret;exact⟨rfl,rfl⟩
theorem kq (w:World):Calls prog 68 #[.iface 139 (.string aPb)] w fun e a=>e=.returned (.int .i64 23)/\a=w:=by
 go_enter func68,ntmps68;go_wp2_with fail;refine(gD _ _ false (by kernel_rfl) _).mono ?_;rintro e a ⟨rfl,rfl⟩;go_wp2_with fail;refine(gD _ _ false (by kernel_rfl) _).mono ?_;rintro e a ⟨rfl,rfl⟩;go_wp2_with fail;refine(gD _ _ false (by kernel_rfl) _).mono ?_;rintro e a ⟨rfl,rfl⟩;go_wp2_with fail;refine(gD _ _ true (by kernel_rfl) _).mono ?_;rintro e a ⟨rfl,rfl⟩;go_wp2;go_ret;exact⟨rfl,rfl⟩
theorem KH (a:Nat) (h:a<=6\/a=20\/a=21\/a=22\/a=23) (w:World):Calls prog 68 #[aZ a] w fun e b=>e=.returned (.int .i64 a)/\b=w:=by
 rcases h with h|rfl|rfl|rfl|rfl
 rotate_left
 ·exact LS w
 ·exact kr w
 ·exact QI w
 ·exact kq w
 match a,h with
 |0,_=>exact vG 0 (by omega) w
 |1,_=>exact vG 1 (by omega) w
 |2,_=>exact vG 2 (by omega) w
 |3,_=>exact vG 3 (by omega) w
 |4,_=>exact vG 4 (by omega) w
 |5,_=>exact vG 5 (by omega) w
 |6,_=>exact vG 6 (by omega) w
theorem aAi {a:Nat} (h:a<=6):aZ a=iG a:=by
 match a,h with
 |0,_=>rfl
 |1,_=>rfl
 |2,_=>rfl
 |3,_=>rfl
 |4,_=>rfl
 |5,_=>rfl
 |6,_=>rfl
theorem nr (v:Int):∀k,BM v k=v / 2 ^ (8*k)
 |0=>by simp[BM]
 |k+1=>by
  rw[BM,nr v k,show 8*(k+1)=8*k+8 by omega,Int.pow_add,Int.ediv_ediv_of_nonneg (Int.pow_nonneg (by omega))];rfl
theorem ln (v:Int):∀n i,i<n->(pW v n)[i]?=some (BM v (n-1-i) % 256)
 |0,i,h=>absurd h (by omega)
 |n+1,0,_=>by simp[pW]
 |n+1,i+1,h=>by
  rw[pW,Fa,ln v n i (by omega)];congr 3;omega
theorem cI (n:Nat) (v:Int) (w:World) (J:n<=8):
 Calls prog 211 #[.int .i64 v,.int .i64 n] w fun e F=>e=.returned (.string (aB n v))/\Below w.heap.size w F:=by
 obtain⟨C,y,B⟩:∃C:Array Value,C.size=n/\(Instr.makeSlice 160 (.int .i64 n) (.int .i64 n)).run prog w=.ok (.slice (some ⟨w.heap.size,0,none⟩) n n) (w.alloc (.cells C 5)):=by
  obtain⟨E,m,o,q,r⟩:=ZL;have h:=run_make (P:=prog) w 160 5 E _ underlying160 m o .i64 .i64 (n:Int) (n:Int) (by omega) (by omega) (by rw[r];omega) (by omega);rw[q,Mc,Nat.mul_one]at h;exact⟨_,size_madeCells _ _,h⟩
 have t:Hid (lA (w.alloc (.cells C 5)) w.heap.size C 5):=heap_alloc_new _ _;go_enter func211,ntmps211;go_wp2;go_loopw [6,11] (fun _ c wr=>∃(k:Nat) (b:Array Value),k<=n/\c=.int .i64 k/\Hid (lA wr w.heap.size b 5)/\b.size=n/\Hid (∀i,i<k->b[n-1-i]?=some (.int .u8 (BM v i % 256)))/\Hid (Below w.heap.size w wr)) (fun _ c _=>n-(intOf c).toNat)
 case atStart=>exact⟨0,C,by omega,rfl,t,y,fun i l=>absurd l (by omega),cA _ _⟩
 case round=>
  obtain⟨k,b,I,rfl,a,j,f,d⟩:=hrel;by_cases A:k<n
  ·obtain⟨p,K,g⟩:∃p:Nat,(n:Int)-1-(k:Int)=(p:Int)/\Hid (p=n-1-k):=⟨n-1-k,by omega,rfl⟩
   have G:wr.cell? ⟨w.heap.size,p,none⟩=some (b[p]'(by have:=g.out;omega)):=by rw[a.out.cell];exact Fc _
   have H:=a.out.free p;go_wp2;refine⟨⟨k+1,b.setIfInBounds p (.int .u8 (v / 2 ^ (8*k) % 256)),by omega,by go_num,a.out.set p _,by simp[j],?_,d.out.setCell (p:=⟨w.heap.size,p,none⟩) (Da _) _⟩,by simp[intOf];omega⟩;intro i l;have D:=g.out;rw[Wa];split
   ·rename_i e;have u:i=k:=by omega
    subst u;rw[Ga (by omega),nr]
   ·rename_i e;exact f.out i (by omega)
  ·have e:k=n:=by omega
   subst e;have z:(convert 160 9 (.slice (some ⟨w.heap.size,0,none⟩) k k)).run prog wr=.ok (.string (aB k v)) wr:=by
    refine run_convert_bytes_arg wr 160 5 underlying160 underlying5 w.heap.size 0 _ _ (pW v k) (nX v k) (fun i l=>?_) 9 underlying9;rw[a.out.cell,Oa];have s:=f.out (k-1-i) (by omega);rw[show k-1-(k-1-i)=i by omega]at s;rw[s];have x:=ln v k i (by omega);simp[List.getD,x]
   go_wp2;go_ret;exact⟨rfl,d.out⟩
theorem qg {a:List eB} (h:(qB a).2.1=0):0<(qB a).1.length/\0<a.length:=by
 obtain⟨d,e⟩:=JW a;by_cases c:(xF a).1=0
 ·obtain⟨b,_,g,_⟩:=d c;have f:=VO g;have i:=VN a;rw[b];simp only;rw[PF];exact⟨f,by omega⟩
 ·have b:=e c;rw[b]at h;exact absurd h c
theorem NF:∀(a b:List eB),Lib.allEq xS a b=nF a b
 |[],[]=>rfl
 |[],_::_=>rfl
 |_::_,[]=>rfl
 |x::r,y::q=>by rw[Lib.allEq,nF,NF r q]
theorem QC [Inhabited eB] {w:World} {b o:Nat} {c:List eB} (h:tS w b o c):∀j,j<c.length->∀i v,(wQ c[j]!)[i]?=some v->w.cell? ⟨b,o+j*2+i,none⟩=some v:=by
 intro j f i v a;have d:=h j f;have e:c[j]! = c[j]:=getElem!_pos c j f;rw[e]at a;match i,a with
 |0,a=>simp[wQ]at a;rw[<-a];exact d.1
 |1,a=>simp[wQ]at a;rw[<-a];exact d.2
 |i+2,a=>simp[wQ]at a
theorem gE.some {w:World} {a:Option Addr} {c:List eB} (h:gE w a c) (d:0<c.length):∃b o,a=some ⟨b,o,none⟩/\b<w.heap.size/\tS w b o c:=by
 rcases h with rfl|h
 ·exact absurd d (by simp)
 ·exact h
theorem gp (w:World) (q:Nat):Below w.heap.size w (w.drewN q):=⟨rfl,rfl,rfl,Da _,fun _ _=>rfl⟩
theorem aAh (a j:Option Addr) (g b:Nat) (d f:List eB) (w:World) (p:gE w a d) (s:gE w j f) (h:0<d.length) (i:0<f.length) (r:d.length<=2000000) (t:f.length<=2000000):
 Calls prog 285 #[.slice a d.length g,.slice j f.length b] w fun e k=>e=.returned (.bool (nF d f))/\Below w.heap.size w k:=by
 obtain⟨l,u,rfl,_,n⟩:=p.some h;obtain⟨m,v,rfl,_,o⟩:=s.some i;haveI:=aOb
 have c:=AnyQ.slices_Equal eqlL 2 isAgg199 sizeOf199 wQ (fun _=>rfl) xS aOe l u d.length g m v f.length b d f w (Da _) (Da _) (by omega) (by omega) (QC n) (QC o);change Calls prog 285 _ _ _ at c;refine c.mono ?_;rintro e k ⟨rfl,q,rfl⟩;rw[Qb,Qb,NF];exact⟨rfl,gp w q⟩
theorem aBd (a:Option Addr) (d:Nat) (b:List eB) (w:World) (s:gE w a b) (z:aDx b) (h:b.length<=2000000) (k:b.length<=d) (A:dF w):
 Calls prog 271 #[.slice a b.length d] w fun e n=>e=.returned (.bool (eP b))/\Below w.heap.size w n:=by
 have l:Hid (Calls prog 284 #[.slice a b.length d] w fun e n=>∃y g,e=.returned (.tuple #[.slice y (qB b).1.length g,.int .i64 ((qB b).2.1:Nat),.int .i64 ((qB b).2.2:Nat)])/\(qB b).1.length<=g/\iE n w.heap.size y (qB b).1/\Below w.heap.size w n):=SP a d b w s z h k A;have D:Hid (gE w a b):=s;have J:=NN b;clear s z A;by_cases i:(qB b).2.1=0
 ·obtain⟨t,u⟩:=qg i;have p:Hid _:=fun W m q H I=>aAh m a q d _ b W H I t u (by omega) h;have E:Hid (eP b=nF (qB b).1 b):=by show _=_;unfold eP;rw[i];rfl
  have r:(((qB b).2.1:Int)==0)=true:=by simp;omega
  rw[E.out];clear i E;generalize nF (qB b).1 b=K at *;generalize (qB b).1=C at *;generalize (qB b).2.1=F at *;generalize (qB b).2.2=G at *;go_enter func271,ntmps271;go_wp2_with fail;refine l.out.mono ?_;rintro e v ⟨m,q,rfl,_,f,c⟩;have o:Hid _:=c;have x:Hid (gE v m C/\gE v a b):=⟨f.labs,D.out.later c⟩
  clear f c l;go_wp2_with fail;refine(p.out _ _ _ x.out.1 x.out.2).mono ?_;rintro e L ⟨rfl,j⟩;have B:Hid _:=pA o.out j;clear j;go_wp2;go_ret;exact⟨rfl,B.out⟩
 ·have E:Hid (eP b=false):=by show _=_;unfold eP;rw[Mb i];rfl
  have r:(((qB b).2.1:Int)==0)=false:=by simp;omega
  rw[E.out];clear i E;generalize (qB b).1=C at *;generalize (qB b).2.1=F at *;generalize (qB b).2.2=G at *;go_enter func271,ntmps271;go_wp2_with fail;refine l.out.mono ?_;rintro e v ⟨m,q,rfl,_,f,c⟩;have o:Hid _:=c;clear f c l;go_wp2;go_ret;exact⟨rfl,o.out⟩
def jU (s:ByteArray) (p n:Nat):Nat:=mL (zC s p n)
def dG (s:ByteArray) (p n:Nat):Option (ByteArray×Nat):=if p+n<=s.size/\p+n+jU s p n<=s.size then some (s.extract (p+n) (p+n+jU s p n),p+n+jU s p n) else none
theorem aIg {t u:ByteArray} {a b:Int} (c:t=u) (d:a=b):Ending.returned (.tuple #[.string t,.int .i64 a])=.returned (.tuple #[.string u,.int .i64 b]):=by rw[c,d]
theorem FE (s:ByteArray) (n:Nat) (w:World):
 Calls prog 46 #[.string s,.int .i64 (-1),.int .i64 (n:Nat)] w fun e a=>e=.returned (.tuple #[.string ByteArray.empty,.int .i64 (-1)])/\a=w:=by
 go_enter func46,ntmps46;go_wp2;go_ret2;exact⟨rfl,rfl⟩
theorem iT (s:ByteArray) (p n:Nat) (w:World) (k:s.size<=1000000000) (j:p<=1000000000) (g:n<=2) (h:dG s p n=none):
 Calls prog 46 #[.string s,.int .i64 (p:Nat),.int .i64 (n:Nat)] w fun e b=>e=.returned (.tuple #[.string ByteArray.empty,.int .i64 (-1)])/\b=w:=by
 by_cases a:p+n<=s.size
 ·have d:Hid (∀W,Calls prog 80 #[.string s,.int .i64 (p:Nat),.int .i64 (n:Nat)] W fun e b=>e=.returned (.int .i64 (jU s p n:Nat))/\b=W):=fun W=>zX s p n W (by unfold maxLen;omega) a (by omega);have c:¬p+n+jU s p n<=s.size:=fun c=>by
   unfold dG at h;rw[Ga ⟨a,c⟩]at h;exact absurd h (by simp)
  have l:jU s p n<65536:=by
   have f:=wS (zC s p n);rw[kF a]at f;have i:256 ^ n<=256 ^ 2:=Zb (by omega) g;unfold jU;omega
  clear h;generalize jU s p n=Z at *;go_enter func46,ntmps46;go_wp2_with fail;refine(d.out _).mono ?_;rintro e m ⟨rfl,hw⟩;replace hw:=hw.symm;subst hw;go_wp2;go_ret2;exact⟨rfl,rfl⟩
 ·clear h;go_enter func46,ntmps46;go_wp2;go_ret2;exact⟨rfl,rfl⟩
theorem kO (s:ByteArray) (p n:Nat) (t:ByteArray) (q:Nat) (w:World) (i:s.size<=1000000000) (g:n<=2) (h:dG s p n=some (t,q)):
 Calls prog 46 #[.string s,.int .i64 (p:Nat),.int .i64 (n:Nat)] w fun e a=>e=.returned (.tuple #[.string t,.int .i64 (q:Nat)])/\a=w:=by
 unfold dG at h;split at h
 ·rename_i hh;obtain⟨d,f⟩:=hh;simp only[Ja,Hb]at h;have c:Hid (∀W,Calls prog 80 #[.string s,.int .i64 (p:Nat),.int .i64 (n:Nat)] W fun e a=>e=.returned (.int .i64 (jU s p n:Nat))/\a=W):=fun W=>zX s p n W (by unfold maxLen;omega) d (by omega);have b:Hid _:=h;clear h;generalize jU s p n=Z at *;go_enter func46,ntmps46;go_wp2_with fail;refine(c.out _).mono ?_;rintro e j ⟨rfl,hw⟩;replace hw:=hw.symm;subst hw;go_wp2;go_ret2;exact⟨aIg b.out.1 (by rw[<-b.out.2];go_num),rfl⟩
 ·exact absurd h (by simp)
theorem xo {s t:ByteArray} {n p:Nat} {pre post:List UInt8} (h:s.data.toList=pre++((aB n (t.size:Nat)).data.toList++(t.data.toList++post))) (c:pre.length=p) (g:t.size<256 ^ n):dG s p n=some (t,p+n+t.size):=by
 have a:(aB n (t.size:Nat)).data.toList.length=n:=by rw[<-mJ];exact bB n _
 have i:jU s p n=t.size:=by
  unfold jU zC;rw[h,<-c,List.drop_left];have e:((aB n (t.size:Nat)).data.toList++(t.data.toList++post)).take n=(aB n (t.size:Nat)).data.toList:=Ng a;rw[e];exact aO n t.size g
 have f:s.size=p+n+t.size+post.length:=by
  rw[mJ,h];simp only[Qa];rw[c,a,<-mJ];omega
 unfold dG;rw[i,Ga ⟨by omega,by omega⟩];congr 2;apply dP;rw[qI,h,<-Df,<-Df];have d:(pre++(aB n (t.size:Nat)).data.toList).length=p+n:=by rw[Qa,c,a]
 have b:(pre++(aB n (t.size:Nat)).data.toList++t.data.toList).length=p+n+t.size:=by rw[Qa,d,<-mJ]
 rw[Ng b,List.drop_left' d]
theorem EI {s:ByteArray} {p n:Nat} {t:ByteArray} {q:Nat} (h:dG s p n=some (t,q)):q<=s.size/\t.size<=s.size/\p+n<=q:=by
 unfold dG at h;split at h
 ·rename_i hh;simp only[Ja,Hb]at h;obtain⟨rfl,rfl⟩:=h;refine⟨hh.2,?_,by omega⟩;simp;omega
 ·exact absurd h (by simp)
theorem gS (k:Nat) (r:Rd):(gB k r).2.rest.size<=r.rest.size:=by rw[gB];exact(eJ k r).2.2
theorem RT.laterD {w w':World} {B:Nat} {r:Rd} (h:RT w B r) (a:Below w.heap.size w w'):RT w' B r:=h.imp fun _ h=>h.later a
theorem eD.upToD {g:Nat} {w c d:World} (h:eD g w c) (a:Below w.heap.size c d):eD g w d:=
 ⟨a.os.trans h.os,a.tape.trans h.tape,a.output.trans h.output,Ma h.size a.size,fun k b e=>(a.block k b).trans (h.block k b e)⟩
theorem mO {g:Nat} {a w:World} (h:eD g a w):eD g a w.drew:=⟨h.os,h.tape,h.output,h.size,h.block⟩
theorem rM (B:Nat) (r:Rd) (k:Nat) (w:World) (a:RT w B r) (b:k<=8) (c:r.rest.size<=1000000000):
 Calls prog 164 #[.pointer (some ⟨B,0,none⟩),.int .i64 (k:Nat)] w fun e w'=>(e=.returned (.int .i64 (zA (gB k r).1))/\(gB k r).2.r9=false/\RT w' B (gB k r).2/\eD B w w')\/(e=.panicked yY/\(gB k r).2.r9=true/\eD B w w'):=by
 cases h:(gB k r).2.r9 with
 |true=>exact(aHe B r k w a b c h).mono fun e w' q=>Ea ⟨q.1,rfl,q.2⟩
 |false=>exact(aLk B r k w a b c h).mono fun e w' q=>Ba ⟨q.1,rfl,q.2⟩
theorem FL (B:Nat) (r:Rd) (k:Nat) (w:World) (a:RT w B r) (b:k<=2) (c:r.rest.size<=1000000000):
 Calls prog 181 #[.pointer (some ⟨B,0,none⟩),.int .i64 (k:Nat)] w fun e w'=>(e=.returned (.string (yA k r).1)/\(yA k r).2.r9=false/\RT w' B (yA k r).2/\eD B w w')\/(e=.panicked yY/\(yA k r).2.r9=true/\eD B w w'):=by
 cases h:(yA k r).2.r9 with
 |true=>exact(aIr B r k w a b c h).mono fun e w' q=>Ea ⟨q.1,rfl,q.2⟩
 |false=>exact(aMl B r k w a b c h).mono fun e w' q=>Ba ⟨q.1,rfl,q.2⟩
structure TG (w0 w':World) (B R1:Nat) (zs:Array Value) (t:TypeId) (r:Rd):Prop where
 Z:lA w' R1 zs t
 N:eD B w0 w'
 T:RT w' B r
section
variable {w0 w' w'':World} {B R1:Nat} {zs:Array Value} {t:TypeId} {r r':Rd}
theorem TG.call (h:TG w0 w' B R1 zs t r) (b:RT w'' B r') (a:eD B w' w'') (c:B<R1):TG w0 w'' B R1 zs t r':=⟨h.Z.but a (by omega),h.N.trans a,b⟩
theorem TG.alloc (h:TG w0 w' B R1 zs t r) (o:Obj):TG w0 (w'.alloc o) B R1 zs t r:=⟨h.Z.alloc _,h.N.trans (eD.of (cA _ _)),h.T.laterD (cA _ _)⟩
theorem TG.turn {S:Nat->Prop} (h:TG w0 w' B R1 zs t r) (b:gA S w' w'') (a:∀j,S j->R1<j) (d:B<R1) (c:w0.heap.size<=R1):TG w0 w'' B R1 zs t r:=
 ⟨b.blk h.Z (fun e=>by have:=a _ e;omega),h.N.upToD (b.below h.N.size fun j f e=>by have:=a _ e;omega),h.T.imp fun _ h=>b.blk h (fun e=>by have:=a _ e;omega)⟩
end
def eI:Option Nat->Int
 |none=>-1
 |some p=>(p:Int)
def mH (s:ByteArray) (n:Nat):Option Nat->Nat×Option Nat
 |none=>(0,none)
 |some p=>if p+n<=s.size then(mL (zC s p n),some (p+n)) else(0,none)
def bG (s:ByteArray) (n:Nat):Option Nat->ByteArray×Option Nat
 |none=>(ByteArray.empty,none)
 |some p=>match dG s p n with
  |none=>(ByteArray.empty,none)
  |some (t,q)=>(t,some q)
theorem xL (s:ByteArray) (n p:Nat):mH s n (some p)=if p+n<=s.size then(mL (zC s p n),some (p+n)) else(0,none):=rfl
theorem bU {s:ByteArray} {n p:Nat} {t:ByteArray} {q:Nat} (h:dG s p n=some (t,q)):bG s n (some p)=(t,some q):=by
 show(match dG s p n with|none=>(ByteArray.empty,none)|some (t,q)=>(t,some q))=_;rw[h]
theorem cU {s:ByteArray} {n p:Nat} (h:dG s p n=none):bG s n (some p)=(ByteArray.empty,none):=by
 show(match dG s p n with|none=>(ByteArray.empty,none)|some (t,q)=>(t,some q))=_;rw[h]
def cW (s:ByteArray) (r:Rd) (p:Nat):Prop:=r.r9=false/\p<=s.size/\r.rest.data.toList=s.data.toList.drop p
theorem iK {s:ByteArray} {r:Rd} {p n:Nat} (h:cW s r p) (g:(gB n r).2.r9=false):mH s n (some p)=((gB n r).1,some (p+n))/\cW s (gB n r).2 (p+n):=by
 obtain⟨m,o,e⟩:=h;obtain⟨l,c,d⟩:=bK (n:=n) (r:=r) g;have q:r.rest.size=s.size-p:=by rw[mJ,e,Lc,<-mJ]
 have k:r.rest.size=n+(wB n r).2.rest.size:=by rw[d,Ia,c]
 have a:p+n<=s.size:=by omega
 have b:(wB n r).1.data.toList++(wB n r).2.rest.data.toList=s.data.toList.drop p:=by rw[<-e,<-gM,<-d]
 have f:(wB n r).1.data.toList.length=n:=by rw[<-mJ];exact c
 have i:(wB n r).1.data.toList=zC s p n:=by
  unfold zC;rw[<-b];exact(Ng f).symm
 have j:(wB n r).2.rest.data.toList=s.data.toList.drop (p+n):=by
  have:(s.data.toList.drop p).drop n=s.data.toList.drop (p+n):=by rw[List.drop_drop]
  rw[<-this,<-b];exact(List.drop_left' f).symm
 refine⟨?_,g,a,j⟩;rw[xL,Ga a,gB,i]
theorem EP {s:ByteArray} {r:Rd} {p n:Nat} (h:cW s r p) (a:(yA n r).2.r9=false):∃q,bG s n (some p)=((yA n r).1,some q)/\cW s (yA n r).2 q:=by
 have c:(gB n r).2.r9=false:=by
  rw[yA]at a;exact(bK a).1
 obtain⟨d,t,e,f⟩:=iK h c;rw[yA]at a |-
 obtain⟨u,i,j⟩:=bK a;have v:(gB n r).2.rest.size=s.size-(p+n):=by rw[mJ,f,Lc,<-mJ]
 have o:(gB n r).2.rest.size=(gB n r).1+(wB (gB n r).1 (gB n r).2).2.rest.size:=by rw[j,Ia,i]
 have g:(wB (gB n r).1 (gB n r).2).1.data.toList++(wB (gB n r).1 (gB n r).2).2.rest.data.toList=s.data.toList.drop (p+n):=by rw[<-f,<-gM,<-j]
 have k:(wB (gB n r).1 (gB n r).2).1.data.toList.length=(gB n r).1:=by rw[<-mJ];exact i
 have b:jU s p n=(gB n r).1:=by
  rw[xL,Ga e]at d;exact(Prod.mk.inj d).1
 have l:s.extract (p+n) (p+n+(gB n r).1)=(wB (gB n r).1 (gB n r).2).1:=by
  apply dP;rw[qI,List.drop_take,<-g,show p+n+(gB n r).1-(p+n)=(gB n r).1 by omega];exact Ng k
 have m:(wB (gB n r).1 (gB n r).2).2.rest.data.toList=s.data.toList.drop (p+n+(gB n r).1):=by
  have:(s.data.toList.drop (p+n)).drop (gB n r).1=s.data.toList.drop (p+n+(gB n r).1):=by rw[List.drop_drop]
  rw[<-this,<-g];exact(List.drop_left' k).symm
 refine⟨p+n+(gB n r).1,?_,a,by omega,m⟩;apply bU;unfold dG;rw[b,Ga ⟨e,by omega⟩,l]
theorem aLl (k:Nat) (r:Rd):(gB k r).2=(wB k r).2:=by rw[gB]
theorem aJa (k:Nat) (r:Rd):(yA k r).2=(wB (gB k r).1 (gB k r).2).2:=by rw[yA]
theorem IJ {k:Nat} {r:Rd} (h:(gB k r).2.r9=false):r.r9=false:=by
 rw[aLl]at h;exact(bK h).1
theorem yn {k:Nat} {r:Rd} (h:(yA k r).2.r9=false):r.r9=false:=by
 rw[aJa]at h;exact IJ (bK h).1
