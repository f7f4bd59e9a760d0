import Derived.Below
import Derived.BigQuiet
import Derived.BigRegion
import Derived.Carry
import Derived.Deep.AppendLies
import Derived.Deep.Cut
import Derived.Deep.CutRange
import Derived.Deep.DeepCutAuto
import Derived.Deep.DeepHandedRow
import Derived.Deep.DeepMakeLenPanics
import Derived.Deep.DeepRowAt
import Derived.Deep.LoopGhost
import Derived.Deep.OwnRows
import Derived.Deep.QuietTactic
import Derived.Deep.RegionHeld2
import Derived.Deep.RegionHeld3
import Derived.Deep.RegionLaw
import Derived.Deep.RegionWith
import Derived.Deep.Slices
import Derived.DiesKit
import Derived.LaidEqlPtr
import Derived.LaidMore
import Derived.Laws.AppendOwn
import Derived.Laws.BitsAllLaws
import Derived.Laws.BytesArg
import Derived.Laws.CopyOwn
import Derived.Lib.AppendStr
import Derived.Lib.ConvBytes
import Derived.Lib.FrozenHead
import Derived.Lib.LaidTab
import Derived.Lib.SliceRun
import Derived.Lib.Strings
import Derived.OpenShut
import Derived.OrdersHeld
import Derived.ProofKit
import Derived.RegionTactic
import Derived.SevenTiedAt
import Derived.SevenTold
import Derived.SizedLaws
import Derived.Stop.Joined
import Derived.Stop.LaidErr
import Derived.WalkKit
import Derived.WalkLawsBesides
import Derived.WalkSpells
import GoSem.ClaimJoined
import Derived.Test.YtiimkkahmpmhdaaGreatDoorCards
import Derived.Test.YtiimkkahmpmhdaaGreatDoorTie
namespace Go.Proofs.YtiimkkahmpmhdaaGreatDoor
open Go.RowKit
theorem aa{p:Prop}(h:p):Hid p:=h
abbrev yB:=ByteArray
abbrev yL:=List UInt8
abbrev yW(w:World):=Below w.heap.size w
abbrev qA(b:Nat):Option Addr:=some ⟨b,0,none⟩
theorem yX{α}(a:α):∃x,x=a:=⟨a,rfl⟩
theorem QU:type_of% @Nat.le_refl:=@Nat.le_refl
theorem QV:type_of% @List.getElem?_eq_getElem:=@List.getElem?_eq_getElem
theorem QW:type_of% @if_neg:=@if_neg
theorem QX:type_of% @if_pos:=@if_pos
theorem QY:type_of% @List.mem_cons_self:=@List.mem_cons_self
theorem QZ:type_of% @List.mem_cons_of_mem:=@List.mem_cons_of_mem
theorem Q0:type_of% @Array.getElem?_eq_some_iff:=@Array.getElem?_eq_some_iff
theorem Q1:type_of% @Below.refl:=@Below.refl
theorem Q2:type_of% @List.mem_singleton:=@List.mem_singleton
theorem Q3:type_of% @List.getD_eq_getElem?_getD:=@List.getD_eq_getElem?_getD
theorem Q4:type_of% @List.length_append:=@List.length_append
theorem Q5:type_of% @cell_of_row:=@cell_of_row
theorem Q6:type_of% @Nat.lt_of_lt_of_le:=@Nat.lt_of_lt_of_le
theorem Q7:type_of% @Nat.le_trans:=@Nat.le_trans
theorem Q8:type_of% @List.length_drop:=@List.length_drop
theorem Q9:type_of% @decide_eq_false:=@decide_eq_false
theorem Ra:type_of% @decide_eq_true:=@decide_eq_true
theorem Rb:type_of% @List.getElem?_eq_some_iff:=@List.getElem?_eq_some_iff
theorem Rc:type_of% @heap_setCell_other:=@heap_setCell_other
theorem Rd:type_of% @World.cell?_of_block:=@World.cell?_of_block
theorem Re:type_of% @List.mem_append:=@List.mem_append
theorem Rf:type_of% @bodyPost_ret:=@bodyPost_ret
theorem Rh:type_of% @List.mem_cons:=@List.mem_cons
theorem Ri:type_of% @Nat.zero_le:=@Nat.zero_le
theorem Rj:type_of% @World.block_lt_of_cell?:=@World.block_lt_of_cell?
theorem Rk:type_of% @Array.getElem?_eq_none:=@Array.getElem?_eq_none
theorem Rl:type_of% @heap_alloc_new:=@heap_alloc_new
theorem Rm:type_of% @List.length_eq_zero_iff:=@List.length_eq_zero_iff
theorem Rn:type_of% @List.append_assoc:=@List.append_assoc
theorem Ro:type_of% @List.length_cons:=@List.length_cons
theorem Rp:type_of% @List.getElem?_map:=@List.getElem?_map
theorem Rq:type_of% @Below.heap_setCell:=@Below.heap_setCell
theorem Rr:type_of% @List.length_map:=@List.length_map
theorem Rs:type_of% @List.length_take:=@List.length_take
theorem Rt:type_of% @List.mem_map:=@List.mem_map
theorem Ru:type_of% @List.mem_append_right:=@List.mem_append_right
theorem Rv:type_of% @List.mem_of_getElem?:=@List.mem_of_getElem?
theorem Rw:type_of% @List.mem_append_left:=@List.mem_append_left
theorem Rx:type_of% @frozen_of_row:=@frozen_of_row
theorem Ry:type_of% @if_false:=@if_false
theorem Rz:type_of% @List.append_nil:=@List.append_nil
theorem RA:type_of% @List.getElem?_append_left:=@List.getElem?_append_left
theorem RC:type_of% @List.getD_cons_zero:=@List.getD_cons_zero
theorem RE:type_of% @IntKind.wrap_i64:=@IntKind.wrap_i64
theorem RF:type_of% @List.drop_eq_getElem_cons:=@List.drop_eq_getElem_cons
theorem RG:type_of% @wpList_append_lies:=@wpList_append_lies
theorem RH:type_of% @UInt8.toNat_ofNat':=@UInt8.toNat_ofNat'
theorem RI:type_of% @List.take_of_length_le:=@List.take_of_length_le
theorem RJ:type_of% @if_true:=@if_true
theorem RL:type_of% @Below.heap_alloc:=@Below.heap_alloc
theorem RM:type_of% @setCell_eq_setRow:=@setCell_eq_setRow
theorem RO:type_of% @World.ownsRow_nil:=@World.ownsRow_nil
theorem RP:type_of% @List.getElem?_eq_none:=@List.getElem?_eq_none
theorem RQ:type_of% @Decidable.byContradiction:=@Decidable.byContradiction
theorem RU:type_of% @List.take_succ_eq_append_getElem:=@List.take_succ_eq_append_getElem
theorem RV:type_of% @List.getElem_mem:=@List.getElem_mem
theorem RW:type_of% @beq_eq_false_iff_ne:=@beq_eq_false_iff_ne
theorem RX:type_of% @List.getElem?_set_ne:=@List.getElem?_set_ne
theorem RY:type_of% @List.getElem?_append_right:=@List.getElem?_append_right
theorem RZ:type_of% @List.append_cancel_left:=@List.append_cancel_left
theorem R3:type_of% @List.length_set:=@List.length_set
theorem R4:type_of% @Array.getElem?_setIfInBounds:=@Array.getElem?_setIfInBounds
theorem R5:type_of% @Nat.zero_add:=@Nat.zero_add
theorem R7:type_of% @setRow_heap:=@setRow_heap
theorem R9:type_of% @List.map_append:=@List.map_append
theorem Sa:type_of% @List.length_singleton:=@List.length_singleton
theorem Sb:type_of% @Classical.byContradiction:=@Classical.byContradiction
theorem Se:type_of% @heap_setCell_same:=@heap_setCell_same
theorem Sf:type_of% @info_parts:=@info_parts
theorem Sg:type_of% @List.mem_range:=@List.mem_range
theorem Sh:type_of% @Bool.and_eq_true:=@Bool.and_eq_true
theorem Si:type_of% @List.not_mem_nil:=@List.not_mem_nil
theorem Sj:type_of% @List.length_pos_iff:=@List.length_pos_iff
theorem Sl:type_of% @List.getElem?_toArray:=@List.getElem?_toArray
theorem Sm:type_of% @List.getElem?_take:=@List.getElem?_take
theorem Sn:type_of% @Array.ext_getElem?:=@Array.ext_getElem?
theorem So:type_of% @cell_one_new:=@cell_one_new
theorem Sp:type_of% @List.all_eq_true:=@List.all_eq_true
theorem Sq:type_of% @List.map_congr_left:=@List.map_congr_left
theorem St:type_of% @run_convert_bytes_arg:=@run_convert_bytes_arg
theorem Su:type_of% @List.take_append_drop:=@List.take_append_drop
theorem Sv:type_of% @List.cons.injEq:=@List.cons.injEq
theorem Sw:type_of% @List.getElem?_drop:=@List.getElem?_drop
theorem Sx:type_of% @List.take_add_one:=@List.take_add_one
theorem Sy:type_of% @ownsRow_setCell_below:=@ownsRow_setCell_below
theorem Sz:type_of% @Nat.mod_eq_of_lt:=@Nat.mod_eq_of_lt
theorem SB:type_of% @IntKind.wrap_u8':=@IntKind.wrap_u8'
theorem SD:type_of% @decide_eq_true_eq:=@decide_eq_true_eq
theorem SE:type_of% @Nat.not_lt:=@Nat.not_lt
theorem SF:type_of% @List.nil_append:=@List.nil_append
theorem SG:type_of% @List.take_length:=@List.take_length
theorem SI:type_of% @List.filter_append:=@List.filter_append
theorem SJ:type_of% @List.countP_append:=@List.countP_append
theorem SK:type_of% @List.ext_getElem?:=@List.ext_getElem?
end Go.Proofs.YtiimkkahmpmhdaaGreatDoor
