import Derived.Test.YtabgbmfcbobamaaGreatDoorJ04
set_option maxRecDepth 100000
set_option maxHeartbeats 2000000
namespace Go.Proofs.YtabgbmfcbobamaaGreatDoor
open Go.RowKit Tryz
theorem oS {s:ByteArray} (h:¬UL s):LC s=false:=Bc h
theorem QD {s:ByteArray} (h:UL s):LC s=true:=Zb h
theorem VI (s:ByteArray) (w:World) (A:s.size<=maxLen):
 Calls prog 147 #[.string s] w fun e C=>e=.returned (.bool (LC s))/\C=w:=by
 unfold maxLen at A;by_cases b:1<=s.size/\s.size<=64
 ·have c:xA (s.size:Int) 1 64=true:=by simp[xA];omega
  have g:Hid _:=c;clear c;have t:0<s.size:=by omega
  have o:=b.2;have x:s[0].toNat<256:=s[0].toNat_lt;have a:Hid _:=kS s 0 t;by_cases q:48<=s[0].toNat/\s[0].toNat<=57
  ·have E:Hid (LC s=false):=oS (fun h=>by
    have:=h.2.2 0 t;unfold lY gV at this;rw[<-a.out]at this;omega)
   have d:¬((s[0].toNat:Int)<48):=by omega
   have z:¬((57:Int)<(s[0].toNat:Int)):=by omega
   clear q b;go_enter func147,ntmps147;go_wp2_with fail;refine(hC _ _ _ _).mono ?_;rintro e u ⟨rfl,hw⟩;rw[g.out];replace hw:=hw.symm;subst hw;go_wp2;go_ret;exact⟨jA E.out.symm,rfl⟩
  ·have v:Hid (¬(48<=nB s 0/\nB s 0<=57)):=by show ¬_;rw[<-a.out];exact q
   have d:(s[0].toNat:Int)<48\/(57:Int)<(s[0].toNat:Int):=by omega
   clear q b;go_enter func147,ntmps147;go_wp2_with fail;refine(hC _ _ _ _).mono ?_;rintro e u ⟨rfl,hw⟩;rw[g.out];replace hw:=hw.symm;subst hw;go_wp2;all_goals
    go_loop [3,4] (fun i _=>∃j:Nat,j<=s.size/\i=.int .i64 j/\Hid (∀k,k<j->lY s k)) (fun i _=>s.size-(intOf i).toNat)
    case atStart=>exact⟨0,La _,rfl,fun k r=>absurd r (by omega)⟩
    case round=>
     obtain⟨j,G,rfl,m⟩:=hrel;by_cases f:j<s.size
     ·have y:s[j].toNat<256:=s[j].toNat_lt;have l:Hid _:=kS s j f;have n:Hid (j=0->¬(48<=s[j].toNat/\s[j].toNat<=57)):=fun e=>by subst e;rw[l.out];exact v.out
      clear d x;by_cases D:s[j].toNat=95
      ·have p:((s[j].toNat:Int) != 95)=false:=by simp;omega
       go_wp2;all_goals
        refine⟨⟨j+1,by omega,by go_num,?_⟩,by simp[intOf];omega⟩;show ∀k,_;intro k r;by_cases e:k=j
        ·subst e;unfold lY gV;rw[<-l.out];omega
        ·exact m.out k (by omega)
      ·have p:((s[j].toNat:Int) != 95)=true:=by simp;omega
       go_wp2;all_goals first
        |(go_ret
          refine⟨jA (oS ?_).symm,rfl⟩
          intro h
          have:=h.2.2 j f
          unfold lY gV KA at this
          rw[<-l.out]at this
          omega)
        |(refine⟨⟨j+1,by omega,by go_num,?_⟩,by simp[intOf];omega⟩
          show ∀k,_
          intro k r
          by_cases e:k=j
          ·subst e
           have:=n.out
           unfold lY gV KA
           rw[<-l.out]
           omega
          ·exact m.out k (by omega))
        |(exfalso;rename_i B;simp at B;omega)
     ·go_wp2;go_ret;exact⟨jA (QD ⟨by omega,o,fun i F=>m.out i (by omega)⟩).symm,rfl⟩
 ·have c:xA (s.size:Int) 1 64=false:=by simp[xA];omega
  have g:Hid _:=c;have E:Hid _:=oS (fun h=>b ⟨h.1,h.2.1⟩);clear c b;go_enter func147,ntmps147;go_wp2_with fail;refine(hC _ _ _ _).mono ?_;rintro e u ⟨rfl,hw⟩;rw[g.out];replace hw:=hw.symm;subst hw;go_wp2;go_ret;exact⟨jA E.out.symm,rfl⟩
theorem TU (s:ByteArray) (w:World) (o:s.size<=maxLen):
 Calls prog 191 #[.string s] w fun e p=>e=.returned (.bool (LC s))/\p=w:=by
 unfold maxLen at o;by_cases d:1<=s.size/\s.size<=64
 ·have q:¬((s.size:Int)<1):=by omega
  go_enter func191,ntmps191;go_wp2;apply wp_scope_straight;go_wp2;apply wp_label;go_wp2;go_loop [3,4,20,35] (fun i _ _ _=>∃j:Nat,j<=s.size/\i=.int .i64 j/\Hid (∀k,k<j->lY s k)) (fun i _ _ _=>s.size-(intOf i).toNat)
  case atStart=>exact⟨0,La _,rfl,fun k m=>absurd m (by omega)⟩
  case round=>
   obtain⟨j,x,rfl,b⟩:=hrel;by_cases a:j<s.size
   ·have n:s[j].toNat<256:=s[j].toNat_lt;have c:Hid (s[j].toNat=nB s j):=kS s j a;have l:((j:Int)==(s.size:Int))=false:=by simp;omega
    by_cases u:s[j].toNat=95
    ·have g:((s[j].toNat:Int)==95)=true:=by simp;omega
     go_wp2;all_goals
      refine⟨⟨j+1,by omega,by go_num,?_⟩,by simp[intOf];omega⟩;show ∀k,_;intro k m;by_cases e:k=j
      ·subst e;unfold lY gV;rw[<-c.out];omega
      ·exact b.out k (by omega)
    ·have g:((s[j].toNat:Int)==95)=false:=by simp;omega
     go_wp2;all_goals first
      |(go_ret
        refine⟨jA (oS ?_).symm,rfl⟩
        intro h
        have:=h.2.2 j a
        unfold lY gV KA at this
        rw[<-c.out]at this
        omega)
      |(refine⟨⟨j+1,by omega,by go_num,?_⟩,by simp[intOf];omega⟩
        show ∀k,_
        intro k m
        by_cases e:k=j
        ·subst e
         unfold lY gV KA
         rw[<-c.out]
         omega
        ·exact b.out k (by omega))
   ·have l:((j:Int)==(s.size:Int))=true:=by simp;omega
    go_wp2;go_ret;exact⟨jA (QD ⟨by omega,by omega,fun i v=>b.out i (by omega)⟩).symm,rfl⟩
 ·have E:Hid (LC s=false):=oS (fun h=>d ⟨h.1,h.2.1⟩);by_cases r:(s.size:Int)<1
  ·clear d;go_enter func191,ntmps191;go_wp2;apply wp_scope_straight;go_wp2;rw[Exit.noGoto_ret];show bodyPost prog f191 _ Exit.ret _ _;go_ret;exact⟨jA E.out.symm,rfl⟩
  ·have t:(64:Int)<s.size:=by omega
   clear d;go_enter func191,ntmps191;go_wp2;apply wp_scope_straight;go_wp2;rw[Exit.noGoto_ret];show bodyPost prog f191 _ Exit.ret _ _;go_ret;exact⟨jA E.out.symm,rfl⟩
def lS (x:Nat):Nat:=if x % 2=1 then(x / 2) ^^^ 2197175160 else x / 2
def dL (x:Nat):Nat->Nat
 |0=>x
 |k+1=>lS (dL x k)
def ea (i:Nat):Nat:=dL i 8
theorem tv {x:Nat} (h:x<4294967296):lS x<4294967296:=by
 unfold lS;split
 ·exact Gd (n:=32) (by omega) (by omega)
 ·omega
theorem OS {x:Nat} (h:x<4294967296):∀k,dL x k<4294967296
 |0=>h
 |k+1=>tv (OS h k)
theorem zq {i:Nat} (h:i<256):ea i<4294967296:=OS (by omega) 8
theorem kx (a b:Nat):(a ^^^ b) % 2=(a+b) % 2:=by
 have:=Nat.xor_mod_two_eq_one (a:=a) (b:=b);omega
theorem mf (r x:Nat):lS (r ^^^ x)=cL r x ^^^ (x / 2):=by
 unfold lS cL;rw[kx,Nat.xor_div_two];split
 ·rw[Nat.xor_assoc,Nat.xor_comm (x / 2),<-Nat.xor_assoc]
 ·rfl
theorem FA (r b:Nat):∀k,dL (r ^^^ b) k=xF r b k ^^^ (b / 2 ^ k)
 |0=>by simp[dL,xF]
 |k+1=>by
  show lS (dL (r ^^^ b) k)=cL (xF r b k) (b / 2 ^ k) ^^^ (b / 2 ^ (k+1));rw[FA r b k,mf,Ef,Md]
theorem dz (x z:Nat):lS (x ^^^ (2*z))=lS x ^^^ z:=by
 unfold lS;rw[kx,Nat.xor_div_two,show(x+2*z) % 2=x % 2 by omega,show 2*z / 2=z by omega];split
 ·rw[Nat.xor_assoc,Nat.xor_comm z,<-Nat.xor_assoc]
 ·rfl
theorem FB (x z:Nat):∀k,dL (x ^^^ (2 ^ k*z)) k=dL x k ^^^ z
 |0=>by simp[dL]
 |k+1=>by
  show lS (dL (x ^^^ (2 ^ (k+1)*z)) k)=lS (dL x k) ^^^ z;rw[Md,Nat.mul_assoc,FB x (2*z) k,dz]
theorem mg (r:Nat):r=(r % 256) ^^^ (256*(r / 256)):=by
 have h:256*(r / 256)+r % 256=(2 ^ 8*(r / 256)) ||| (r % 256):=Lf (i:=8) (b:=r % 256) (by omega) (r / 256)
 have c:(r % 256) ^^^ (256*(r / 256))=(2 ^ 8*(r / 256)) ||| (r % 256):=by
  apply Nat.eq_of_testBit_eq;intro i;rw[Nat.testBit_xor,Nat.testBit_or,show 256*(r / 256)=2 ^ 8*(r / 256) from rfl,Nat.testBit_two_pow_mul,show r % 256=r % 2 ^ 8 from rfl,Nat.testBit_mod_two_pow];by_cases a:i<8
  ·simp[a,Nat.not_le.2 a]
  ·simp[a,Nat.not_lt.1 a]
 omega
theorem mh (r b:Nat) (d:b<256):xF r b 8=(r / 256) ^^^ ea ((r % 256) ^^^ b):=by
 have a:=FA r b 8;rw[show b / 2 ^ 8=0 by omega,Nat.xor_zero]at a;rw[<-a];have c:=FB ((r % 256) ^^^ b) (r / 256) 8;rw[show((r % 256) ^^^ b) ^^^ (2 ^ 8*(r / 256))=r ^^^ b by
  rw[Nat.xor_assoc,Nat.xor_comm b,<-Nat.xor_assoc,show(2 ^ 8*(r / 256))=256*(r / 256) from rfl,<-mg r]]at c
 rw[c,Nat.xor_comm];rfl
theorem yv:∃Z:Array Value,Z=Array.replicate 256 (.int .u32 0)/\∀w,(zeroValue 214).run prog w=.ok (.agg Z) w:=⟨_,rfl,fun _=>by kernel_rfl⟩
theorem gw (P:Program) (w:World) (Z:Array Value) (t:TypeId) (b:∀v∈Z.toList,v.oneCell'=true):
 (storeCells ⟨w.heap.size,0,none⟩ Z.toList).run P (w.alloc (.cells Z t))=.ok () (w.alloc (.cells Z t)):=by
 have a:(w.alloc (.cells Z t)).heap[w.heap.size]?=some (.cells Z t (0,0)):=heap_alloc_new _ _;have h:=run_storeCells_from (P:=P) w.heap.size t Z.toList 0 Z _ a (by simp) b;rw[h];simp only[List.take_zero,Nb,Array.toArray_toList];rw[setRow_self _ _ Z t (0,0) a]
theorem WO (a:Nat) (b:a<4294967296):bits .and .u32 (a:Int) 1=((a % 2:Nat):Int):=by
 show IntKind.u32.wrap ((BitVec.ofInt 32 (a:Int) &&& BitVec.ofInt 32 ((1:Nat):Int)).toNat:Int)=_;rw[BitVec.toNat_and,Jc,Jc,Ec,Ec,Kc (by omega),Kc (by omega),Nat.and_one_is_mod];simp only[IntKind.wrap,IntKind.bits,IntKind.signed];simp;omega
theorem WD (a b:Nat) (c:a<4294967296) (d:b<4294967296):bits .xor .u32 (a:Int) (b:Int)=((a ^^^ b:Nat):Int):=by
 have e:a ^^^ b<2 ^ 32:=Gd (by omega) (by omega);show IntKind.u32.wrap ((BitVec.ofInt 32 (a:Int) ^^^ BitVec.ofInt 32 (b:Int)).toNat:Int)=_;rw[Vf,Jc,Jc,Ec,Ec,Kc (by omega),Kc (by omega)];simp only[IntKind.wrap,IntKind.bits,IntKind.signed];simp;omega
theorem ZJ (w:World):
 Calls prog 94 #[] w fun e v=>∃b a,e=.returned (.pointer (some ⟨b,0,none⟩))/\w.heap.size<=b/\eA v b a 214/\(∀i,i<256->a[i]?=some (.int .u32 (ea i:Nat)))/\Below w.heap.size w v:=by
 obtain⟨Z,l,I⟩:=yv;have r:Z.size=256:=by rw[l];simp
 have C:=gw prog w Z 214 (by rw[l];simp[Value.oneCell']);have s:eA (w.alloc (.cells Z 214)) w.heap.size Z 214:=heap_alloc_new _ _;have y:Hid (eA (w.alloc (.cells Z 214)) w.heap.size Z 214):=s;clear l s;go_enter func94,ntmps94;go_wp2;go_loopw [2,3,5] (fun _ _ c wr=>∃(k:Nat) (a:Array Value),k<=256/\c=.int .i64 k/\Hid (eA wr w.heap.size a 214)/\a.size=256/\Hid (∀i,i<k->a[i]?=some (.int .u32 (ea i:Nat)))/\Hid (Below w.heap.size w wr)) (fun _ _ c _=>256-(intOf c).toNat)
 case atStart=>exact⟨0,Z,by omega,rfl,y,r,fun i u=>absurd u (by omega),cA _ _⟩
 case round=>
  obtain⟨k,a,H,rfl,d,m,h,g⟩:=hrel;by_cases B:k<256
  ·go_wp2;go_loop [3,10] (fun x c=>∃(j X:Nat),j<=8/\c=.int .i64 j/\x=.int .u32 X/\X<4294967296/\Hid (X=dL k j)) (fun _ c=>8-(intOf c).toNat)
   case atStart=>exact⟨0,k,by omega,rfl,by go_num,by omega,rfl⟩
   case round=>
    obtain⟨j,X,G,rfl,rfl,A,o⟩:=hrel;have t:=WO X A;have q:=WD (X / 2) 2197175160 (by omega) (by omega);by_cases D:j<8
    ·by_cases f:X % 2=1
     ·rw[f]at t;go_wp2;refine⟨⟨j+1,(X / 2) ^^^ 2197175160,by omega,by go_num,?_,Gd (n:=32) (by omega) (by omega),?_⟩,by simp[intOf];omega⟩
      ·rw[<-q];congr 2
      ·show _=_;rw[dL,<-o.out,lS,Qa f]
     ·have z:X % 2=0:=by omega
      rw[z]at t;go_wp2;refine⟨⟨j+1,X / 2,by omega,by go_num,?_,by omega,?_⟩,by simp[intOf];omega⟩
      ·go_num
      ·show _=_;rw[dL,<-o.out,lS,Oa f]
    ·have e:j=8:=by omega
     subst e;have E:wr.cell? ⟨w.heap.size,k,none⟩=some (a[k]'(by omega)):=by rw[d.out.cell];exact Vc _
     have F:=d.out.free k;go_wp2;refine⟨⟨k+1,a.setIfInBounds k (.int .u32 X),by omega,by go_num,d.out.set k _,by simp[m],?_,?_⟩,by simp[intOf];omega⟩
     ·intro i u;rw[Bb];split
      ·rename_i e;subst e;rw[Qa (by omega),o.out];rfl
      ·exact h.out i (by omega)
     ·exact g.out.setCell (p:=⟨w.heap.size,k,none⟩) (Ka _) _
  ·have e:k=256:=by omega
   subst e;go_wp2;go_ret;exact⟨w.heap.size,a,rfl,Ka _,d.out,h.out,g.out⟩
theorem aFt (a b:Nat) (c:a<256) (d:b<256):bits .xor .u8 (a:Int) (b:Int)=((a ^^^ b:Nat):Int):=by
 have e:a ^^^ b<2 ^ 8:=Gd (by omega) (by omega);show IntKind.u8.wrap ((BitVec.ofInt 8 (a:Int) ^^^ BitVec.ofInt 8 (b:Int)).toNat:Int)=_;rw[Vf,Jc,Jc,Ec,Ec,Kc (by omega),Kc (by omega)];simp only[IntKind.wrap,IntKind.bits,IntKind.signed];simp;omega
theorem aAy (a:Nat) (d:a<4294967296):bits .xor .u32 IntKind.u32.max (a:Int)=((4294967295-a:Nat):Int):=by
 have b:bits .xor .u32 IntKind.u32.max (a:Int)=((4294967295 ^^^ a:Nat):Int):=WD 4294967295 a (by omega) d;have c:(4294967295 ^^^ a:Nat)=4294967295-a:=by
  have e:(BitVec.allOnes 32 ^^^ BitVec.ofNat 32 a).toNat=(~~~ BitVec.ofNat 32 a).toNat:=by rw[BitVec.allOnes_xor]
  rw[Vf,BitVec.toNat_allOnes,BitVec.toNat_not,Ec,Kc (by omega)]at e;exact e
 rw[b,c]
theorem ia (b:Nat) (d:Array Value) (s:ByteArray) (w:World) (A:s.size<=maxLen) (r:eA w b d 214) (f:∀i,i<256->d[i]?=some (.int .u32 (ea i:Nat))):
 Calls prog 95 #[.pointer (some ⟨b,0,none⟩),.string s] w fun e C=>e=.returned (.int .i64 (bG s:Nat))/\Below w.heap.size w C:=by
 have q:Hid (eA w b d 214/\∀i,i<256->d[i]?=some (.int .u32 (ea i:Nat))):=⟨r,f⟩
 clear r f;unfold maxLen at A;go_enter func95,ntmps95;go_wp2;go_loopw [5,6,9] (fun x _ c wr=>∃(k X:Nat),k<=s.size/\c=.int .i64 k/\x=.int .u32 X/\X<4294967296/\Hid (X=JV (s.data.toList.take k))/\Hid (Below w.heap.size w wr)) (fun _ _ c _=>s.size-(intOf c).toNat)
 case atStart=>exact⟨0,4294967295,by omega,rfl,rfl,by omega,by show _=_;simp[JV],Below.refl _ _⟩
 case round=>
  obtain⟨k,X,F,rfl,rfl,y,t,a⟩:=hrel;by_cases p:k<s.size
  ·have E:=(s[k]).toNat_lt;obtain⟨N,T,Y,D,h,z,g,B,l,m⟩:∃N T Y:Nat,N<256/\T<4294967296/\Y<4294967296/\bits .xor .u8 ((X:Int) % 256) ((s[k]).toNat:Int)=(N:Int)/\bits .xor .u32 ((X:Int) / 256) (T:Int)=(Y:Int)/\wr.cell? ⟨b,N,none⟩=some (.int .u32 (T:Nat))/\Hid (yI X s[k]=Y):=by
    have g:=aFt (X % 256) (s[k]).toNat (by omega) (by omega);have o:(X % 256) ^^^ (s[k]).toNat<256:=Gd (n:=8) (by omega) (by omega);have j:=q.out.1.later a.out;have h:=zq o;refine⟨_,_,_,o,h,Gd (n:=32) (by omega) h,g,WD (X / 256) _ (by omega) h,by rw[j.cell];exact q.out.2 _ o,mh X _ (by omega)⟩
   go_wp2;go_region
   go_wp2;refine⟨⟨k+1,Y,by omega,by go_num,rfl,z,?_,a.out.drew⟩,by simp[intOf];omega⟩;show _=_;rw[lP s k p,OQ,<-t.out,m.out]
  ·have e:k=s.size:=by omega
   subst e;have G:=aAy X y;go_wp2;refine bodyPost_ret (v:=.int .i64 (bG s:Nat)) ?_ rfl ⟨rfl,a.out⟩;have u:wrap64 ((4294967295-X:Nat):Int)=((4294967295-X:Nat):Int):=by simp only[wrap64];omega
   rw[u,show bG s=4294967295-X by rw[bG,t.out,Ua (by simp)]];simp[results,results95,go_sem]
